import Derived.Test.YtbiplocgenppoaaC11
import Derived.Test.YtbiplocgenppoaaC12
set_option maxHeartbeats 1000000
set_option maxRecDepth 100000
set_option linter.unusedSimpArgs false
set_option linter.unusedVariables false
set_option linter.unusedSectionVars false
namespace Go.Proofs.Ytbiplocgenppoaa
open _root_.Go.Proofs.Try
open Go.RowKit
theorem numbered_int (w : World) (va : Value) (es : List (Ent Int)) (hE : RdE lab_int w va es) (hnd : es.Nodup) :
  Calls Try.prog 57 #[va] w (RetN lab_int w es) := by
 obtain ⟨aa, ac, rfl⟩ := lenV_E hE
 have hel : es.length ≤ 5000000000001 := by obtain ⟨_, _, _, hl, _⟩ := hE; exact hl
 go_enter func57, Try.ntmps57
 refine gc_enter (N := 19) rfl (look_cons (k := 0) rfl (look_nil _)) ?_
 refine gc_sr fun K1 hK1 => ?_
 refine gas ?_
 refine gnt (hK1 _ _ ?_)
 refine gc_sr fun K2 hK2 => ?_
 refine gop fun K4 hK4 => ?_
 refine go_makeNum lab_int rfl rfl rfl ?_
 intro B3
 refine hK4 _ _ ?_
 refine gas ?_
 refine gnt (hK2 _ _ ?_)
 refine gc_seq fun K5 hK5 => ?_
 refine gc_sr fun K6 hK6 => ?_
 refine gm ?_
 refine gv (qt_len rfl rfl (lab_ul lab_int) (fun w M => lenV_E (mem_rdE M hE))) ?_
 refine gm ?_
 refine gnt (hK6 _ _ ?_)
 refine gc_block ?_
 try simp only [sL]
 refine gc_loopT ([(0, _), (2, _), (3, _), (7, _), (8, _)] : Env) (fun s : Nat => (fun (k : Nat) => (([(9, .int .i64 (k : Int))] : Env), ([(0, numI lab_int B3 (es.take k))] : List (Nat × Itm)), k ≤ es.length, es.length - k)) s) (0) (by repeat first | exact sub_nil | refine sub_cons rfl ?_) rfl (Nat.zero_le _) ?_
 rintro k hinv KL7 hKL7
 simp only [sU, sL] at hinv hKL7 ⊢
 have hk := hinv
 refine gc_sr fun K8 hK8 => ?_
 refine gv (qt_lss rfl rfl rfl) ?_
 refine gnt (hK8 _ _ ?_)
 refine gc_seq fun K9 hK9 => ?_
 refine gc_cond rfl (fun hc0 => ?_) (fun hc0 => ?_)
 ·try simp only [sA] at hc0
  refine gc_skip ?_
  refine gk_then (hK9 _ _ ?_)
  refine gc_seq fun K10 hK10 => ?_
  refine gc_block ?_
  refine gc_sr fun K11 hK11 => ?_
  refine gm ?_
  refine gv (qt_indexE lab_int rfl rfl rfl rfl (fun w M => lenA_E (mem_rdE M hE)) (by omega) (by omega)) ?_
  refine gv (qt_loadE lab_int rfl rfl rfl (fun w M => mem_rdE M hE) (by omega) (by omega)) ?_
  refine gop fun K13 hK13 => ?_
  refine go_alloc (z := (.agg #[.int .i64 0, .int .i64 0, .int .i64 0])) (cs := [.int .i64 0, .int .i64 0, .int .i64 0]) rfl rfl rfl (fun w => by kernel_rfl) rfl ?_
  intro B12
  refine hK13 _ _ ?_
  refine gas ?_
  refine gop fun K14 hK14 => ?_
  refine go_storeS (n := 1) rfl rfl rfl rfl (by kernel_rfl) rfl rfl rfl ?_
  refine hK14 _ _ ?_
  refine gnt (hK11 _ _ ?_)
  refine gc_region ?_
  refine gm ?_
  refine gv (qts underlying86 (n := 1)) ?_
  refine gm ?_
  refine gop fun K15 hK15 => ?_
  refine go_putN lab_int (n := 0) rfl rfl rfl rfl rfl rfl rfl (takeE_not hnd (k := k) (by omega)) (takeE_len (k := k) (by omega)) ?_
  refine hK15 _ _ ?_
  refine g_nil ?_
  refine gk_block ?_
  refine gk_then (hK10 _ _ ?_)
  refine gc_region ?_
  refine gv (qt_add rfl rfl rfl (by omega)) ?_
  refine gm ?_
  refine g_nil ?_
  rw [takeE_succ (by omega)]
  refine gk_then (gk_take 1 ?_)
  refine gk_sub ?hs_16 (hKL7 (k + 1) ?hi_16 ?hm_16)
  case hs_16 => repeat first | exact sub_nil | refine sub_cons rfl ?_
  case hi_16 => omega
  case hm_16 => omega
 try simp only [sA] at hc0
 refine gc_exit ?_
 refine gk_then_exit ?_
 refine gk_then_exit ?_
 refine gk_block_hit ?_
 refine gk_then (hK5 _ _ ?_)
 refine gc_sr fun K17 hK17 => ?_
 refine gm ?_
 refine gas ?_
 refine gnt (hK17 _ _ ?_)
 refine gc_ret ?_
 refine ret_1 rfl rfl  (fun w M => ?_)
 obtain rfl : k = es.length := by omega
 rw [List.take_length] at M
 obtain ⟨S, hS, hb⟩ := mem_get (n := 0) M rfl
 exact ⟨_, rfl, (numM_loc lab_int _ es).keep (fun q _ hq => hS q hq) agree_refl hb, M.1⟩
theorem bt023_plan_int64 {n : Int} {f g : Fn} {a b c d : Array Value} : Try.prog.built 55 [(0, .int .i64 n), (2, .func f a b), (3, .func g c d)] = some #[.int .i64 n, .slice none 0 0, .func f a b, .func g c d] := by kernel_rfl
theorem add_int (w0 w : World) (R : Itm) (PB : Nat) (n x y : Int) (l : Int) (a : Option Addr) (q : Nat) (es : List (Ent Int)) (F1 F2 : Value) (hn : es.length + 1 ≤ 5000000000001) (M : Mem w0 w [bxI PB 55 [.int .i64 n, .slice a es.length q, F1, F2], ownEI lab_int (.slice a es.length q) es, R]) :
  Calls Try.prog 32 #[.pointer (some ⟨PB, 0, none⟩), .agg #[.int .i64 x, .int .i64 y], Value.int .i64 (l)] w (fun e w' => ∃ s : Option Addr × Nat, e = .returned (.tuple #[]) ∧ Mem w0 w' [bxI PB 55 [.int .i64 n, .slice s.1 (es ++ [(x, y, l)]).length s.2, F1, F2], ownEI lab_int (.slice s.1 (es ++ [(x, y, l)]).length s.2) (es ++ [(x, y, l)]), R]) := by
 go_enter func32, Try.ntmps32
 refine gc_enterM M (N := 18) rfl (look_cons (k := 0) rfl (look_cons (k := 1) rfl (look_cons (k := 2) rfl (look_nil _)))) ?_
 clear M
 refine gc_sr fun K1 hK1 => ?_
 refine gop fun K3 hK3 => ?_
 refine go_box rfl rfl rfl rfl rfl ?_
 intro B2
 refine hK3 _ _ ?_
 refine gnt (hK1 _ _ ?_)
 try simp only [sL]
 refine ga_start _ (fun w M => mem_erase 0 (mem_erase 1 (M))) ?_
 refine gav 0 rfl (qt_move rfl rfl) ?_
 refine gav 1 rfl (qt_move rfl rfl) ?_
 refine gav 2 rfl (qt_nilP rfl rfl) ?_
 refine gav 3 rfl (qtf underlying55 (z := 0) (off := 1)) ?_
 refine gav 5 rfl (qts underlying59 (n := 1)) ?_
 refine gav 6 rfl (qt_move rfl rfl) ?_
 refine gav 7 rfl (qt_build rfl rfl bt_pairOf_arrowEnds_int64) ?_
 refine gat 4 8 (fun K4 hK4 => ?_) (fun K4 hK4 => ?_)
 ·refine gov (qtl underlying53 (n := 0)) ?_
  refine hK4 _ _ (fun w M => (ms0 0 1 4 M :)) ?_
  refine gao 8 fun K7 hK7 => ?_
  refine go_sliceE1 lab_int rfl rfl rfl rfl rfl ?_
  intro B6
  refine hK7 _ _ (fun w M => (ms0 0 1 4 M :)) ?_
  refine gao 9 fun K9 hK9 => ?_
  refine go_appendE lab_int (n := 1) (m := 4) rfl rfl rfl rfl rfl rfl rfl rfl (show _ ≤ 5000000000001 by omega) ?_
  intro va8 vc8
  refine hK9 _ _ (fun w M => (ms0 0 1 4 M :)) ?_
  refine gav 10 rfl (qt_nilP rfl rfl) ?_
  refine gav 11 rfl (qtf underlying55 (z := 0) (off := 1)) ?_
  refine gao 12 fun K10 hK10 => ?_
  refine go_storeB (n := 0) rfl rfl rfl rfl (by kernel_rfl) rfl rfl rfl (by first | decide | simp) ?_
  refine hK10 _ _ (fun w M => (ms0 0 1 4 M :)) ?_
  refine ga_done (by kernel_rfl) ?_
  refine ret_0n rfl (fun w M => ?_)
  exact ⟨(_, _), rfl, mem_take 3 M⟩
 refine go_sliceE1 lab_int rfl rfl rfl rfl rfl ?_
 intro B11
 refine hK4 _ _ (fun w M => (ms0 0 1 4 M :)) ?_
 refine gao 4 fun K13 hK13 => ?_
 refine gov (qtl underlying53 (n := 0)) ?_
 refine hK13 _ _ (fun w M => (ms0 0 1 4 M :)) ?_
 refine gao 9 fun K15 hK15 => ?_
 refine go_appendE lab_int (n := 1) (m := 4) rfl rfl rfl rfl rfl rfl rfl rfl (show _ ≤ 5000000000001 by omega) ?_
 intro va14 vc14
 refine hK15 _ _ (fun w M => (ms0 0 1 4 M :)) ?_
 refine gav 10 rfl (qt_nilP rfl rfl) ?_
 refine gav 11 rfl (qtf underlying55 (z := 0) (off := 1)) ?_
 refine gao 12 fun K16 hK16 => ?_
 refine go_storeB (n := 0) rfl rfl rfl rfl (by kernel_rfl) rfl rfl rfl (by first | decide | simp) ?_
 refine hK16 _ _ (fun w M => (ms0 0 1 4 M :)) ?_
 refine ga_done (by kernel_rfl) ?_
 refine ret_0n rfl (fun w M => ?_)
 exact ⟨(_, _), rfl, mem_take 3 M⟩
theorem row_int (w : World) (n : Int) (va : Value) (es : List (Ent Int)) (hE : RdE lab_int w va es) (fu : FuncId) (cu : List Value) (ft : FuncId) (ct : List Value) (th : Int → Int → Int) (ot : Opn ft) (ht : ∀ w', Below w.heap.size w w' → ∀ f ∈ es, ∀ g ∈ es, f.2.1 = g.1 → Calls Try.prog ft ([Value.int .i64 (f.2.2), Value.int .i64 (g.2.2)] ++ ct).toArray w' (RetV w' (Value.int .i64 (th f.2.2 g.2.2)))) (x y : Int) (l : Int) (hf : (x, y, l) ∈ es) (NB : Nat) (hN : RdN lab_int w NB es) :
  Calls Try.prog 58 #[.agg #[.int .i64 n, va, .func (.func fu) #[] cu.toArray, .func (.func ft) #[] ct.toArray], .agg #[.int .i64 x, .int .i64 y, Value.int .i64 (l)], .map (some NB)] w (RetL w (rowE es th (x, y, l))) := by
 obtain ⟨aa, ac, rfl⟩ := lenV_E hE
 have hel : es.length ≤ 5000000000001 := by obtain ⟨_, _, _, hl, _⟩ := hE; exact hl
 go_enter func58, Try.ntmps58
 refine gc_enter (N := 56) rfl (look_cons (k := 0) rfl (look_cons (k := 1) rfl (look_cons (k := 2) rfl (look_nil _)))) ?_
 refine gc_sr fun K1 hK1 => ?_
 refine gop fun K3 hK3 => ?_
 refine go_box rfl rfl rfl rfl rfl ?_
 intro B2
 refine hK3 _ _ ?_
 refine gop fun K5 hK5 => ?_
 refine go_box rfl rfl rfl rfl rfl ?_
 intro B4
 refine hK5 _ _ ?_
 refine gas ?_
 refine gnt (hK1 _ _ ?_)
 refine gc_sr fun K6 hK6 => ?_
 refine gv (qtf underlying55 (z := 0) (off := 1)) ?_
 refine gv (qtl underlying53 (n := 0)) ?_
 refine gv (qt_len rfl rfl (lab_ul lab_int) (fun w M => lenV_E (mem_rdE M hE))) ?_
 refine gop fun K8 hK8 => ?_
 refine go_make1 rfl rfl rfl underlying24 rfl rfl (by omega) ?_
 intro B7
 refine hK8 _ _ ?_
 refine gas ?_
 refine gnt (hK6 _ _ ?_)
 refine gc_seq fun K9 hK9 => ?_
 refine gc_sr fun K10 hK10 => ?_
 refine gv (qtf underlying55 (z := 0) (off := 1)) ?_
 refine gv (qtl underlying53 (n := 0)) ?_
 refine gv (qt_len rfl rfl (lab_ul lab_int) (fun w M => lenV_E (mem_rdE M hE))) ?_
 refine gm ?_
 refine gnt (hK10 _ _ ?_)
 refine gc_block ?_
 rw [fillTo_zero (fun j => cellE es th (x, y, l) (atE es (j : Int))) es.length]
 try simp only [sL]
 refine gc_loopT ([(0, _), (1, _), (2, _), (3, _), (4, _), (6, _), (7, _), (16, _), (17, _)] : Env) (fun s : Nat => (fun (k : Nat) => (([(18, .int .i64 (k : Int))] : Env), ([(2, own1I (.slice (some ⟨B7, 0, none⟩) es.length es.length) (fillTo (fun j => cellE es th (x, y, l) (atE es (j : Int))) es.length k))] : List (Nat × Itm)), k ≤ es.length, es.length - k)) s) (0) (by repeat first | exact sub_nil | refine sub_cons rfl ?_) rfl (Nat.zero_le _) ?_
 rintro k hinv KL11 hKL11
 simp only [sU, sL] at hinv hKL11 ⊢
 have hk := hinv
 have hfl := fillTo_len (fun j => cellE es th (x, y, l) (atE es (j : Int))) es.length k
 refine gc_sr fun K12 hK12 => ?_
 refine gv (qt_lss rfl rfl rfl) ?_
 refine gnt (hK12 _ _ ?_)
 refine gc_seq fun K13 hK13 => ?_
 refine gc_cond rfl (fun hc0 => ?_) (fun hc0 => ?_)
 ·try simp only [sA] at hc0
  refine gc_skip ?_
  refine gk_then (hK13 _ _ ?_)
  refine gc_seq fun K14 hK14 => ?_
  refine gc_block ?_
  refine gc_sr fun K15 hK15 => ?_
  refine gm ?_
  refine gv (qt_indexE lab_int rfl rfl rfl rfl (fun w M => lenA_E (mem_rdE M hE)) (by omega) (by omega)) ?_
  refine gv (qt_loadE lab_int rfl rfl rfl (fun w M => mem_rdE M hE) (by omega) (by omega)) ?_
  refine gop fun K17 hK17 => ?_
  refine go_alloc (z := (.agg #[.int .i64 0, .int .i64 0, .int .i64 0])) (cs := [.int .i64 0, .int .i64 0, .int .i64 0]) rfl rfl rfl (fun w => by kernel_rfl) rfl ?_
  intro B16
  refine hK17 _ _ ?_
  refine gas ?_
  refine gop fun K18 hK18 => ?_
  refine go_storeS (n := 3) rfl rfl rfl rfl (by kernel_rfl) rfl rfl rfl ?_
  refine hK18 _ _ ?_
  refine gnt (hK15 _ _ ?_)
  refine gc_seq fun K19 hK19 => ?_
  refine gc_sr fun K20 hK20 => ?_
  refine gv (qtf underlying86 (z := 1) (off := 0)) ?_
  refine gv (qtf underlying59 (z := 0) (off := 1)) ?_
  refine gv (qtl underlying2 (n := 1)) ?_
  refine gv (qtf underlying86 (z := 1) (off := 0)) ?_
  refine gv (qtf underlying59 (z := 0) (off := 0)) ?_
  refine gv (qtl underlying2 (n := 3)) ?_
  refine gv (qt_neq rfl rfl rfl) ?_
  refine gnt (hK20 _ _ ?_)
  refine gc_cond rfl (fun hc1 => ?_) (fun hc1 => ?_)
  ·try simp only [sA] at hc1
   refine gc_sr fun K21 hK21 => ?_
   refine gm ?_
   refine gm ?_
   refine gv (qti (fun w M => lenA_own1 (n := 2) rfl M)) ?_
   refine gop fun K22 hK22 => ?_
   refine go_store1 (n := 2) rfl rfl rfl rfl (by kernel_rfl) rfl (by omega) (by omega) ?_
   refine hK22 _ _ ?_
   refine gnt (hK21 _ _ ?_)
   refine gc_exit ?_
   refine gk_then_exit ?_
   refine gk_block_hit ?_
   refine gk_then (hK14 _ _ ?_)
   refine gc_region ?_
   refine gv (qt_add rfl rfl rfl (by omega)) ?_
   refine gm ?_
   refine g_nil ?_
   rw [fillTo_set' (φ := fun j => cellE es th (x, y, l) (atE es (j : Int))) (by omega) (if_neg hc1)]
   refine gk_then (gk_take 3 ?_)
   refine gk_sub ?hs_23 (hKL11 (k + 1) ?hi_23 ?hm_23)
   case hs_23 => repeat first | exact sub_nil | refine sub_cons rfl ?_
   case hi_23 => omega
   case hm_23 => omega
  try simp only [sA] at hc1
  refine gc_skip ?_
  refine gk_then (hK19 _ _ ?_)
  refine gc_sr fun K24 hK24 => ?_
  refine gv (qtf underlying86 (z := 1) (off := 0)) ?_
  refine gv (qtf underlying59 (z := 0) (off := 0)) ?_
  refine gv (qtl underlying2 (n := 1)) ?_
  refine gv (qtf underlying86 (z := 1) (off := 0)) ?_
  refine gv (qtf underlying59 (z := 0) (off := 1)) ?_
  refine gv (qtl underlying2 (n := 3)) ?_
  refine gv (qt_build rfl rfl bt_arrowEnds) ?_
  refine gop fun K26 hK26 => ?_
  refine go_alloc (z := (.agg #[.int .i64 0, .int .i64 0])) (cs := [.int .i64 0, .int .i64 0]) rfl rfl rfl (fun w => by kernel_rfl) rfl ?_
  intro B25
  refine hK26 _ _ ?_
  refine gop fun K27 hK27 => ?_
  refine go_storeS (n := 4) rfl rfl rfl rfl (by kernel_rfl) rfl rfl rfl ?_
  refine hK27 _ _ ?_
  refine gnt (hK24 _ _ ?_)
  try simp only [sL]
  refine ga_start _ (fun w M => mem_erase 2 (M)) ?_
  refine gav 0 rfl (qt_move rfl rfl) ?_
  refine gav 1 rfl (qt_move rfl rfl) ?_
  refine gav 2 rfl (qt_move rfl rfl) ?_
  refine gav 3 rfl (qts underlying59 (n := 3)) ?_
  refine gav 4 rfl (qtf underlying55 (z := 0) (off := 3)) ?_
  refine gav 5 rfl (qtl underlying52 (n := 0)) ?_
  refine gav 6 rfl (qtf underlying86 (z := 0) (off := 2)) ?_
  refine gav 7 rfl (qtl underlying2 (n := 1)) ?_
  refine gav 8 rfl (qtf underlying86 (z := 0) (off := 2)) ?_
  refine gav 9 rfl (qtl underlying2 (n := 2)) ?_
  refine gao 10 fun K28 hK28 => ?_
  refine go_q rfl rfl (qt_callF rfl rfl ot rfl (fun w M => ht w M.1 (x, y, l) hf (atE es (k : Int)) (atE_mem (by omega)) hc1)) ?_
  refine hK28 _ _ (fun w M => (ms1 2 5 M :)) ?_
  refine gav 11 rfl (qt_build rfl rfl bt_pairOf_arrowEnds_int64) ?_
  refine gav 12 rfl (qt_lookN lab_int rfl rfl rfl rfl (fun w M => mem_rdN M hN)) ?_
  refine gao 13 fun K29 hK29 => ?_
  refine gov (qti (fun w M => lenA_own1 (n := 2) rfl M)) ?_
  refine hK29 _ _ (fun w M => (ms1 2 5 M :)) ?_
  refine gao 14 fun K30 hK30 => ?_
  refine go_store1 (n := 2) rfl rfl rfl rfl (by kernel_rfl) rfl (by omega) (by omega) ?_
  refine hK30 _ _ (fun w M => (ms1 2 5 M :)) ?_
  refine ga_done (by kernel_rfl) ?_
  refine gk_block ?_
  refine gk_then (hK14 _ _ ?_)
  refine gc_region ?_
  refine gv (qt_add rfl rfl rfl (by omega)) ?_
  refine gm ?_
  refine g_nil ?_
  rw [fillTo_set' (φ := fun j => cellE es th (x, y, l) (atE es (j : Int))) (by omega) (if_pos hc1)]
  refine gk_then (gk_take 3 ?_)
  refine gk_sub ?hs_31 (hKL11 (k + 1) ?hi_31 ?hm_31)
  case hs_31 => repeat first | exact sub_nil | refine sub_cons rfl ?_
  case hi_31 => omega
  case hm_31 => omega
 try simp only [sA] at hc0
 refine gc_exit ?_
 refine gk_then_exit ?_
 refine gk_then_exit ?_
 refine gk_block_hit ?_
 refine gk_then (hK9 _ _ ?_)
 refine gc_sr fun K32 hK32 => ?_
 refine gm ?_
 refine gas ?_
 refine gnt (hK32 _ _ ?_)
 refine gc_ret ?_
 refine ret_1 rfl rfl  (fun w M => ?_)
 obtain rfl : k = es.length := by omega
 rw [fillTo_end] at M
 exact ⟨_, rfl, mem_own1 (n := 2) M rfl, M.1⟩
theorem build_int (w : World) (n : Int) (va : Value) (es : List (Ent Int)) (hE : RdE lab_int w va es) (hnd : es.Nodup) (n0 : 0 ≤ n) (fu : FuncId) (cu : List Value) (u : Nat → Int) (ou : Opn fu) (hu : ∀ w', Below w.heap.size w w' → ∀ x : Nat, (x : Int) < n → Calls Try.prog fu ([Value.int .i64 (x : Int)] ++ cu).toArray w' (RetV w' (Value.int .i64 (u x)))) (ft : FuncId) (ct : List Value) (th : Int → Int → Int) (ot : Opn ft) (ht : ∀ w', Below w.heap.size w w' → ∀ f ∈ es, ∀ g ∈ es, f.2.1 = g.1 → Calls Try.prog ft ([Value.int .i64 (f.2.2), Value.int .i64 (g.2.2)] ++ ct).toArray w' (RetV w' (Value.int .i64 (th f.2.2 g.2.2)))) :
  Calls Try.prog 33 #[.agg #[.int .i64 n, va, .func (.func fu) #[] cu.toArray, .func (.func ft) #[] ct.toArray]] w (RetCI w (madeE n es u th) (madeEc n es)) := by
 obtain ⟨aa, ac, rfl⟩ := lenV_E hE
 have hel : es.length ≤ 5000000000001 := by obtain ⟨_, _, _, hl, _⟩ := hE; exact hl
 have hrl := fun (f : Ent Int) => tabTo_len (fun j => cellE es th f (atE es (j : Int))) es.length
 go_enter func33, Try.ntmps33
 refine gc_enter (N := 80) rfl (look_cons (k := 0) rfl (look_nil _)) ?_
 refine gc_sr fun K1 hK1 => ?_
 refine gop fun K3 hK3 => ?_
 refine go_box rfl rfl rfl rfl rfl ?_
 intro B2
 refine hK3 _ _ ?_
 refine gop fun K5 hK5 => ?_
 refine go_alloc (z := (.agg #[.int .i64 0, .slice none 0 0, .slice none 0 0, .slice none 0 0, .slice none 0 0])) (cs := [.int .i64 0, .slice none 0 0, .slice none 0 0, .slice none 0 0, .slice none 0 0]) rfl rfl rfl (fun w => by kernel_rfl) rfl ?_
 intro B4
 refine hK5 _ _ ?_
 refine gas ?_
 refine gnt (hK1 _ _ ?_)
 refine gc_seq fun K6 hK6 => ?_
 refine gc_sr fun K7 hK7 => ?_
 refine gv (qtf underlying55 (z := 0) (off := 0)) ?_
 refine gv (qtl underlying2 (n := 0)) ?_
 refine gv (qt_gtr rfl rfl rfl) ?_
 refine g_splitv (.free rfl) rfl rfl (qt_move rfl rfl) (fun hs1_3 => ?_) (fun hs1_3 => ?_)
 ·try simp only [sA] at hs1_3
  refine gsk ?_
  refine gsk ?_
  refine gsk ?_
  refine gsk ?_
  refine gv (qt_pick_t rfl rfl rfl) ?_
  refine gnt (hK7 _ _ ?_)
  refine gc_cond_t rfl ?_
  refine gc_sr fun K8 hK8 => ?_
  refine gv (qt_build rfl rfl bt0_Category) ?_
  refine gop fun K9 hK9 => ?_
  refine go_storeS (n := 1) rfl rfl rfl rfl (by kernel_rfl) rfl rfl rfl ?_
  refine hK9 _ _ ?_
  refine gas ?_
  refine gnt (hK8 _ _ ?_)
  refine gc_ret ?_
  refine gk_then_ret ?_
  refine ret_SI (n := 1) rfl rfl rfl underlying27 rfl (by kernel_rfl) rfl (fun w M => ?_)
  have hm := madeE_f (n := n) (es := es) (u := u) (th := th) (by omega)
  rw [hm.1, hm.2]; exact ⟨_, rfl, ownC_zero _ _, M.1⟩
 try simp only [sA] at hs1_3
 refine gvh (qtf underlying55 (z := 0) (off := 1)) ?_
 refine gvh (qtl underlying53 (n := 0)) ?_
 refine gvh (qt_len rfl rfl (lab_ul lab_int) (fun w M => lenV_E (mem_rdE M hE))) ?_
 refine gvh (qt_gtr rfl rfl rfl) ?_
 refine gv (qt_pick_f rfl rfl rfl) ?_
 refine gnt (hK7 _ _ ?_)
 refine gc_cond rfl (fun hc0 => ?_) (fun hc0 => ?_)
 ·try simp only [sA] at hc0
  refine gc_sr fun K10 hK10 => ?_
  refine gv (qt_build rfl rfl bt0_Category) ?_
  refine gop fun K11 hK11 => ?_
  refine go_storeS (n := 1) rfl rfl rfl rfl (by kernel_rfl) rfl rfl rfl ?_
  refine hK11 _ _ ?_
  refine gas ?_
  refine gnt (hK10 _ _ ?_)
  refine gc_ret ?_
  refine gk_then_ret ?_
  refine ret_SI (n := 1) rfl rfl rfl underlying27 rfl (by kernel_rfl) rfl (fun w M => ?_)
  have hm := madeE_f (n := n) (es := es) (u := u) (th := th) (by omega)
  rw [hm.1, hm.2]; exact ⟨_, rfl, ownC_zero _ _, M.1⟩
 try simp only [sA] at hc0
 refine gc_skip ?_
 refine gk_then (hK6 _ _ ?_)
 refine gc_sr fun K12 hK12 => ?_
 refine gv (qtf underlying55 (z := 0) (off := 0)) ?_
 refine gv (qtl underlying2 (n := 0)) ?_
 refine gv (qt_build rfl rfl btp0_Category) ?_
 refine gop fun K14 hK14 => ?_
 refine go_alloc (z := (.agg #[.int .i64 0, .slice none 0 0, .slice none 0 0, .slice none 0 0, .slice none 0 0])) (cs := [.int .i64 0, .slice none 0 0, .slice none 0 0, .slice none 0 0, .slice none 0 0]) rfl rfl rfl (fun w => by kernel_rfl) rfl ?_
 intro B13
 refine hK14 _ _ ?_
 refine gop fun K15 hK15 => ?_
 refine go_storeS (n := 2) rfl rfl rfl rfl (by kernel_rfl) rfl rfl rfl ?_
 refine hK15 _ _ ?_
 refine gnt (hK12 _ _ ?_)
 refine gc_sr fun K16 hK16 => ?_
 refine gv (qtf underlying55 (z := 0) (off := 1)) ?_
 refine gv (qtl underlying53 (n := 0)) ?_
 refine gop fun K18 hK18 => ?_
 refine go_callN rfl rfl rfl func57 rfl (by decide) rfl (fun w M => numbered_int w _ _ (mem_rdE M hE) (by first | assumption | omega)) ?_
 intro B17
 refine hK18 _ _ ?_
 refine gas ?_
 refine gnt (hK16 _ _ ?_)
 refine gc_seq fun K19 hK19 => ?_
 refine gc_sr fun K20 hK20 => ?_
 refine gv (qtf underlying55 (z := 0) (off := 0)) ?_
 refine gv (qtl underlying2 (n := 0)) ?_
 refine gm ?_
 refine gnt (hK20 _ _ ?_)
 refine gc_block ?_
 refine gc_nilS ?_
 try simp only [sL]
 refine gc_loopT ([(0, _), (1, _), (2, _), (3, _), (4, _), (5, _), (17, _), (26, _)] : Env) (fun s : Nat × (Option Addr) × Nat => (fun (k : Nat) (a : Option Addr) (q : Nat) => (([(27, .int .i64 (k : Int))] : Env), ([(2, bxI B13 27 [.int .i64 n, .slice none 0 0, .slice none 0 0, .slice a (tabTo (fun x => posE es ((x : Int), (x : Int), u x)) k).length q, .slice none 0 0]), (4, own1I (.slice a (tabTo (fun x => posE es ((x : Int), (x : Int), u x)) k).length q) (tabTo (fun x => posE es ((x : Int), (x : Int), u x)) k))] : List (Nat × Itm)), k ≤ n.toNat, n.toNat - k)) s.1 s.2.1 s.2.2) (0, _, _) (by repeat first | exact sub_nil | refine sub_cons rfl ?_) rfl (Nat.zero_le _) ?_
 rintro ⟨k, a, q⟩ hinv KL21 hKL21
 simp only [sU, sL] at hinv hKL21 ⊢
 have hk := hinv
 have hl3 := tabTo_len (fun x => posE es ((x : Int), (x : Int), u x)) k
 refine gc_sr fun K22 hK22 => ?_
 refine gv (qt_lss rfl rfl rfl) ?_
 refine gnt (hK22 _ _ ?_)
 refine gc_seq fun K23 hK23 => ?_
 refine gc_cond rfl (fun hc1 => ?_) (fun hc1 => ?_)
 ·try simp only [sA] at hc1
  refine gc_skip ?_
  refine gk_then (hK23 _ _ ?_)
  refine gc_seq fun K24 hK24 => ?_
  refine gc_block ?_
  refine gc_sr fun K25 hK25 => ?_
  refine gm ?_
  refine gas ?_
  refine gnt (hK25 _ _ ?_)
  try simp only [sL]
  refine ga_start _ (fun w M => mem_erase 2 (mem_erase 4 (M))) ?_
  refine gav 0 rfl (qtf underlying27 (z := 0) (off := 3)) ?_
  refine gav 2 rfl (qt_move rfl rfl) ?_
  refine gav 3 rfl (qt_move rfl rfl) ?_
  refine gav 4 rfl (qt_move rfl rfl) ?_
  refine gav 5 rfl (qt_build rfl rfl bt_arrowEnds) ?_
  refine gav 6 rfl (qtf underlying55 (z := 0) (off := 2)) ?_
  refine gav 7 rfl (qtl underlying38 (n := 0)) ?_
  refine gav 8 rfl (qt_move rfl rfl) ?_
  refine gat 1 9 (fun K26 hK26 => ?_) (fun K26 hK26 => ?_)
  ·refine gov (qtl underlying24 (n := 2)) ?_
   refine hK26 _ _ (fun w M => (ms0 2 4 5 M :)) ?_
   refine gao 9 fun K28 hK28 => ?_
   refine go_q rfl rfl (qt_callF rfl rfl ou rfl (fun w M => hu w M.1 k (by omega))) ?_
   refine hK28 _ _ (fun w M => (ms0 2 4 5 M :)) ?_
   refine gav 10 rfl (qt_build rfl rfl bt_pairOf_arrowEnds_int64) ?_
   refine gav 11 rfl (qt_lookN lab_int rfl rfl rfl rfl (fun w M => mem_numN (n := 2) M rfl)) ?_
   refine gao 12 fun K30 hK30 => ?_
   refine go_slice1 rfl rfl rfl rfl underlying24 ?_
   intro B29
   refine hK30 _ _ (fun w M => (ms0 2 4 5 M :)) ?_
   refine gao 13 fun K32 hK32 => ?_
   refine go_append (n := 4) (m := 5) rfl rfl rfl underlying24 rfl rfl rfl rfl (by omega) ?_
   intro va31 vc31
   refine hK32 _ _ (fun w M => (ms0 2 4 5 M :)) ?_
   refine gav 14 rfl (qtf underlying27 (z := 0) (off := 3)) ?_
   refine gao 15 fun K33 hK33 => ?_
   refine go_storeB (n := 2) rfl rfl rfl rfl (by kernel_rfl) rfl rfl rfl (by first | decide | simp) ?_
   refine hK33 _ _ (fun w M => (ms0 2 4 5 M :)) ?_
   refine ga_done (by kernel_rfl) ?_
   refine gk_block ?_
   refine gk_then (hK24 _ _ ?_)
   refine gc_region ?_
   refine gv (qt_add rfl rfl rfl (by omega)) ?_
   refine gm ?_
   refine g_nil ?_
   simp only [tabTo_succ]
   refine gk_then (gk_take 5 ?_)
   refine gk_sub ?hs_34 (hKL21 (k + 1, _, _) ?hi_34 ?hm_34)
   case hs_34 => repeat first | exact sub_nil | refine sub_cons rfl ?_
   case hi_34 => omega
   case hm_34 => omega
  refine go_q rfl rfl (qt_callF rfl rfl ou rfl (fun w M => hu w M.1 k (by omega))) ?_
  refine hK26 _ _ (fun w M => (ms0 2 4 5 M :)) ?_
  refine gav 10 rfl (qt_build rfl rfl bt_pairOf_arrowEnds_int64) ?_
  refine gav 11 rfl (qt_lookN lab_int rfl rfl rfl rfl (fun w M => mem_numN (n := 2) M rfl)) ?_
  refine gat 1 12 (fun K36 hK36 => ?_) (fun K36 hK36 => ?_)
  ·refine gov (qtl underlying24 (n := 2)) ?_
   refine hK36 _ _ (fun w M => (ms0 2 4 5 M :)) ?_
   refine gao 12 fun K39 hK39 => ?_
   refine go_slice1 rfl rfl rfl rfl underlying24 ?_
   intro B38
   refine hK39 _ _ (fun w M => (ms0 2 4 5 M :)) ?_
   refine gao 13 fun K41 hK41 => ?_
   refine go_append (n := 4) (m := 5) rfl rfl rfl underlying24 rfl rfl rfl rfl (by omega) ?_
   intro va40 vc40
   refine hK41 _ _ (fun w M => (ms0 2 4 5 M :)) ?_
   refine gav 14 rfl (qtf underlying27 (z := 0) (off := 3)) ?_
   refine gao 15 fun K42 hK42 => ?_
   refine go_storeB (n := 2) rfl rfl rfl rfl (by kernel_rfl) rfl rfl rfl (by first | decide | simp) ?_
   refine hK42 _ _ (fun w M => (ms0 2 4 5 M :)) ?_
   refine ga_done (by kernel_rfl) ?_
   refine gk_block ?_
   refine gk_then (hK24 _ _ ?_)
   refine gc_region ?_
   refine gv (qt_add rfl rfl rfl (by omega)) ?_
   refine gm ?_
   refine g_nil ?_
   simp only [tabTo_succ]
   refine gk_then (gk_take 5 ?_)
   refine gk_sub ?hs_43 (hKL21 (k + 1, _, _) ?hi_43 ?hm_43)
   case hs_43 => repeat first | exact sub_nil | refine sub_cons rfl ?_
   case hi_43 => omega
   case hm_43 => omega
  refine go_slice1 rfl rfl rfl rfl underlying24 ?_
  intro B44
  refine hK36 _ _ (fun w M => (ms0 2 4 5 M :)) ?_
  refine gao 1 fun K46 hK46 => ?_
  refine gov (qtl underlying24 (n := 2)) ?_
  refine hK46 _ _ (fun w M => (ms0 2 4 5 M :)) ?_
  refine gao 13 fun K48 hK48 => ?_
  refine go_append (n := 4) (m := 5) rfl rfl rfl underlying24 rfl rfl rfl rfl (by omega) ?_
  intro va47 vc47
  refine hK48 _ _ (fun w M => (ms0 2 4 5 M :)) ?_
  refine gav 14 rfl (qtf underlying27 (z := 0) (off := 3)) ?_
  refine gao 15 fun K49 hK49 => ?_
  refine go_storeB (n := 2) rfl rfl rfl rfl (by kernel_rfl) rfl rfl rfl (by first | decide | simp) ?_
  refine hK49 _ _ (fun w M => (ms0 2 4 5 M :)) ?_
  refine ga_done (by kernel_rfl) ?_
  refine gk_block ?_
  refine gk_then (hK24 _ _ ?_)
  refine gc_region ?_
  refine gv (qt_add rfl rfl rfl (by omega)) ?_
  refine gm ?_
  refine g_nil ?_
  simp only [tabTo_succ]
  refine gk_then (gk_take 5 ?_)
  refine gk_sub ?hs_50 (hKL21 (k + 1, _, _) ?hi_50 ?hm_50)
  case hs_50 => repeat first | exact sub_nil | refine sub_cons rfl ?_
  case hi_50 => omega
  case hm_50 => omega
 try simp only [sA] at hc1
 refine gc_exit ?_
 refine gk_then_exit ?_
 refine gk_then_exit ?_
 refine gk_block_hit ?_
 refine gk_then (hK19 _ _ ?_)
 refine gc_seq fun K51 hK51 => ?_
 refine gc_seq fun K52 hK52 => ?_
 obtain rfl : k = n.toNat := by omega
 refine gc_region ?_
 refine gv (qtf underlying55 (z := 0) (off := 1)) ?_
 refine gv (qtl underlying53 (n := 0)) ?_
 refine gv (qt_len rfl rfl (lab_ul lab_int) (fun w M => lenV_E (mem_rdE M hE))) ?_
 refine gm ?_
 refine gnt (hK52 _ _ ?_)
 refine gc_block ?_
 refine gc_nilS ?_
 refine gc_nilS ?_
 refine gc_nilU ?_
 try simp only [sL]
 refine gc_loopT ([(0, _), (1, _), (2, _), (3, _), (4, _), (5, _), (17, _), (26, _), (27, _), (28, _), (47, _), (48, _)] : Env) (fun s : Nat × (Option Addr) × Nat × (Option Addr) × Nat × (Option Addr) × Nat × (List Value) => (fun (k : Nat) (a1 : Option Addr) (q1 : Nat) (a2 : Option Addr) (q2 : Nat) (a4 : Option Addr) (q4 : Nat) (us : List Value) => (([(49, .int .i64 (k : Int))] : Env), ([(2, bxI B13 27 [.int .i64 n, .slice a1 (tabTo (fun i => (atE es (i : Int)).1) k).length q1, .slice a2 (tabTo (fun i => (atE es (i : Int)).2.1) k).length q2, .slice a (tabTo (fun x => posE es ((x : Int), (x : Int), u x)) n.toNat).length q, .slice a4 (rowsTo (fun i => rowE es th (atE es (i : Int))) k).length q4]), (5, own1I (.slice a1 (tabTo (fun i => (atE es (i : Int)).1) k).length q1) (tabTo (fun i => (atE es (i : Int)).1) k)), (6, own1I (.slice a2 (tabTo (fun i => (atE es (i : Int)).2.1) k).length q2) (tabTo (fun i => (atE es (i : Int)).2.1) k)), (7, own2U (.slice a4 (rowsTo (fun i => rowE es th (atE es (i : Int))) k).length q4) us (rowsTo (fun i => rowE es th (atE es (i : Int))) k))] : List (Nat × Itm)), k ≤ es.length, es.length - k)) s.1 s.2.1 s.2.2.1 s.2.2.2.1 s.2.2.2.2.1 s.2.2.2.2.2.1 s.2.2.2.2.2.2.1 s.2.2.2.2.2.2.2) (0, _, _, _, _, _, _, _) (by repeat first | exact sub_nil | refine sub_cons rfl ?_) rfl (Nat.zero_le _) ?_
 rintro ⟨k, a1, q1, a2, q2, a4, q4, us⟩ hinv KL53 hKL53
 simp only [sU, sL] at hinv hKL53 ⊢
 have hk := hinv
 have hl1 := tabTo_len (fun i => (atE es (i : Int)).1) k
 have hl2 := tabTo_len (fun i => (atE es (i : Int)).2.1) k
 have hl4 := rowsTo_len (fun i => rowE es th (atE es (i : Int))) k
 refine gc_sr fun K54 hK54 => ?_
 refine gv (qt_lss rfl rfl rfl) ?_
 refine gnt (hK54 _ _ ?_)
 refine gc_seq fun K55 hK55 => ?_
 refine gc_cond rfl (fun hc2 => ?_) (fun hc2 => ?_)
 ·try simp only [sA] at hc2
  refine gc_skip ?_
  refine gk_then (hK55 _ _ ?_)
  refine gc_seq fun K56 hK56 => ?_
  refine gc_block ?_
  refine gc_sr fun K57 hK57 => ?_
  refine gv (qt_indexE lab_int rfl rfl rfl rfl (fun w M => lenA_E (mem_rdE M hE)) (by omega) (by omega)) ?_
  refine gv (qt_loadE lab_int rfl rfl rfl (fun w M => mem_rdE M hE) (by omega) (by omega)) ?_
  refine gop fun K59 hK59 => ?_
  refine go_alloc (z := (.agg #[.int .i64 0, .int .i64 0, .int .i64 0])) (cs := [.int .i64 0, .int .i64 0, .int .i64 0]) rfl rfl rfl (fun w => by kernel_rfl) rfl ?_
  intro B58
  refine hK59 _ _ ?_
  refine gop fun K60 hK60 => ?_
  refine go_storeS (n := 8) rfl rfl rfl rfl (by kernel_rfl) rfl rfl rfl ?_
  refine hK60 _ _ ?_
  refine gnt (hK57 _ _ ?_)
  refine gc_sr fun K61 hK61 => ?_
  refine gv (qtf underlying27 (z := 0) (off := 1)) ?_
  refine gv (qtl underlying24 (n := 2)) ?_
  refine gv (qtf underlying86 (z := 1) (off := 0)) ?_
  refine gv (qtf underlying59 (z := 0) (off := 0)) ?_
  refine gv (qtl underlying2 (n := 8)) ?_
  refine gop fun K63 hK63 => ?_
  refine go_slice1 rfl rfl rfl rfl underlying24 ?_
  intro B62
  refine hK63 _ _ ?_
  refine gop fun K65 hK65 => ?_
  refine go_append (n := 5) (m := 9) rfl rfl rfl underlying24 rfl rfl rfl rfl (by omega) ?_
  intro va64 vc64
  refine hK65 _ _ ?_
  refine gv (qtf underlying27 (z := 0) (off := 1)) ?_
  refine gop fun K66 hK66 => ?_
  refine go_storeB (n := 2) rfl rfl rfl rfl (by kernel_rfl) rfl rfl rfl (by first | decide | simp) ?_
  refine hK66 _ _ ?_
  refine gnt (hK61 _ _ ?_)
  refine gc_sr fun K67 hK67 => ?_
  refine gv (qtf underlying27 (z := 0) (off := 2)) ?_
  refine gv (qtl underlying24 (n := 2)) ?_
  refine gv (qtf underlying86 (z := 1) (off := 0)) ?_
  refine gv (qtf underlying59 (z := 0) (off := 1)) ?_
  refine gv (qtl underlying2 (n := 8)) ?_
  refine gop fun K69 hK69 => ?_
  refine go_slice1 rfl rfl rfl rfl underlying24 ?_
  intro B68
  refine hK69 _ _ ?_
  refine gop fun K71 hK71 => ?_
  refine go_append (n := 6) (m := 10) rfl rfl rfl underlying24 rfl rfl rfl rfl (by omega) ?_
  intro va70 vc70
  refine hK71 _ _ ?_
  refine gv (qtf underlying27 (z := 0) (off := 2)) ?_
  refine gop fun K72 hK72 => ?_
  refine go_storeB (n := 2) rfl rfl rfl rfl (by kernel_rfl) rfl rfl rfl (by first | decide | simp) ?_
  refine hK72 _ _ ?_
  refine gnt (hK67 _ _ ?_)
  try simp only [sL]
  refine ga_start _ (fun w M => mem_erase 2 (mem_erase 7 (M))) ?_
  refine gav 0 rfl (qtf underlying27 (z := 0) (off := 4)) ?_
  refine gav 2 rfl (qts underlying55 (n := 0)) ?_
  refine gav 3 rfl (qts underlying86 (n := 6)) ?_
  refine gav 4 rfl (qt_move rfl rfl) ?_
  refine gat 1 5 (fun K73 hK73 => ?_) (fun K73 hK73 => ?_)
  ·refine gov (qtl underlying25 (n := 2)) ?_
   refine hK73 _ _ (fun w M => (ms0 2 7 11 M :)) ?_
   refine gao 5 fun K76 hK76 => ?_
   refine go_callL rfl rfl rfl func58 rfl (by decide) rfl (fun w M => row_int w (n) (.slice aa es.length ac) (es) (mem_rdE M hE) (fu) (cu) (ft) (ct) (th) (ot) (fun w' hb => ht w' (M.1.trans (hb.mono M.1.size))) (atE es (k : Int)).1 (atE es (k : Int)).2.1 (atE es (k : Int)).2.2 (atE_mem (k := k) (by omega)) _ (mem_numN (n := 3) M rfl)) ?_
   intro va75 vc75
   refine hK76 _ _ (fun w M => (ms0 2 7 11 M :)) ?_
   refine gao 6 fun K78 hK78 => ?_
   refine go_sliceR1 (m := 11) rfl rfl rfl rfl underlying25 rfl ?_
   intro B77
   refine hK78 _ _ (fun w M => (ms0 2 7 11 M :)) ?_
   refine gao 7 fun K80 hK80 => ?_
   refine go_appendRow (n := 7) (m := 11) (m' := 10) rfl rfl rfl underlying25 rfl rfl rfl rfl rfl (by omega) ?_
   intro va79 vc79
   refine hK80 _ _ (fun w M => (ms0 2 7 11 M :)) ?_
   refine gav 8 rfl (qtf underlying27 (z := 0) (off := 4)) ?_
   refine gao 9 fun K81 hK81 => ?_
   refine go_storeB (n := 2) rfl rfl rfl rfl (by kernel_rfl) rfl rfl rfl (by first | decide | simp) ?_
   refine hK81 _ _ (fun w M => (ms0 2 7 11 M :)) ?_
   refine ga_done (by kernel_rfl) ?_
   refine gk_block ?_
   refine gk_then (hK56 _ _ ?_)
   refine gc_region ?_
   refine gv (qt_add rfl rfl rfl (by omega)) ?_
   refine gm ?_
   refine g_nil ?_
   simp only [rowE_eta, tabTo_succ, rowsTo_succ]
   refine gk_then (gk_take 8 ?_)
   refine gk_sub ?hs_82 (hKL53 (k + 1, _, _, _, _, _, _, _) ?hi_82 ?hm_82)
   case hs_82 => repeat first | exact sub_nil | refine sub_cons rfl ?_
   case hi_82 => omega
   case hm_82 => omega
  refine go_callL rfl rfl rfl func58 rfl (by decide) rfl (fun w M => row_int w (n) (.slice aa es.length ac) (es) (mem_rdE M hE) (fu) (cu) (ft) (ct) (th) (ot) (fun w' hb => ht w' (M.1.trans (hb.mono M.1.size))) (atE es (k : Int)).1 (atE es (k : Int)).2.1 (atE es (k : Int)).2.2 (atE_mem (k := k) (by omega)) _ (mem_numN (n := 3) M rfl)) ?_
  intro va83 vc83
  refine hK73 _ _ (fun w M => (ms0 2 7 11 M :)) ?_
  refine gat 1 6 (fun K85 hK85 => ?_) (fun K85 hK85 => ?_)
  ·refine gov (qtl underlying25 (n := 2)) ?_
   refine hK85 _ _ (fun w M => (ms0 2 7 11 M :)) ?_
   refine gao 6 fun K88 hK88 => ?_
   refine go_sliceR1 (m := 11) rfl rfl rfl rfl underlying25 rfl ?_
   intro B87
   refine hK88 _ _ (fun w M => (ms0 2 7 11 M :)) ?_
   refine gao 7 fun K90 hK90 => ?_
   refine go_appendRow (n := 7) (m := 11) (m' := 10) rfl rfl rfl underlying25 rfl rfl rfl rfl rfl (by omega) ?_
   intro va89 vc89
   refine hK90 _ _ (fun w M => (ms0 2 7 11 M :)) ?_
   refine gav 8 rfl (qtf underlying27 (z := 0) (off := 4)) ?_
   refine gao 9 fun K91 hK91 => ?_
   refine go_storeB (n := 2) rfl rfl rfl rfl (by kernel_rfl) rfl rfl rfl (by first | decide | simp) ?_
   refine hK91 _ _ (fun w M => (ms0 2 7 11 M :)) ?_
   refine ga_done (by kernel_rfl) ?_
   refine gk_block ?_
   refine gk_then (hK56 _ _ ?_)
   refine gc_region ?_
   refine gv (qt_add rfl rfl rfl (by omega)) ?_
   refine gm ?_
   refine g_nil ?_
   simp only [rowE_eta, tabTo_succ, rowsTo_succ]
   refine gk_then (gk_take 8 ?_)
   refine gk_sub ?hs_92 (hKL53 (k + 1, _, _, _, _, _, _, _) ?hi_92 ?hm_92)
   case hs_92 => repeat first | exact sub_nil | refine sub_cons rfl ?_
   case hi_92 => omega
   case hm_92 => omega
  refine go_sliceR1 (m := 11) rfl rfl rfl rfl underlying25 rfl ?_
  intro B93
  refine hK85 _ _ (fun w M => (ms0 2 7 11 M :)) ?_
  refine gao 1 fun K95 hK95 => ?_
  refine gov (qtl underlying25 (n := 2)) ?_
  refine hK95 _ _ (fun w M => (ms0 2 7 11 M :)) ?_
  refine gao 7 fun K97 hK97 => ?_
  refine go_appendRow (n := 7) (m := 11) (m' := 10) rfl rfl rfl underlying25 rfl rfl rfl rfl rfl (by omega) ?_
  intro va96 vc96
  refine hK97 _ _ (fun w M => (ms0 2 7 11 M :)) ?_
  refine gav 8 rfl (qtf underlying27 (z := 0) (off := 4)) ?_
  refine gao 9 fun K98 hK98 => ?_
  refine go_storeB (n := 2) rfl rfl rfl rfl (by kernel_rfl) rfl rfl rfl (by first | decide | simp) ?_
  refine hK98 _ _ (fun w M => (ms0 2 7 11 M :)) ?_
  refine ga_done (by kernel_rfl) ?_
  refine gk_block ?_
  refine gk_then (hK56 _ _ ?_)
  refine gc_region ?_
  refine gv (qt_add rfl rfl rfl (by omega)) ?_
  refine gm ?_
  refine g_nil ?_
  simp only [rowE_eta, tabTo_succ, rowsTo_succ]
  refine gk_then (gk_take 8 ?_)
  refine gk_sub ?hs_99 (hKL53 (k + 1, _, _, _, _, _, _, _) ?hi_99 ?hm_99)
  case hs_99 => repeat first | exact sub_nil | refine sub_cons rfl ?_
  case hi_99 => omega
  case hm_99 => omega
 try simp only [sA] at hc2
 refine gc_exit ?_
 refine gk_then_exit ?_
 refine gk_then_exit ?_
 refine gk_block_hit ?_
 refine gk_then (hK51 _ _ ?_)
 refine gc_sr fun K100 hK100 => ?_
 refine gv (qts underlying27 (n := 2)) ?_
 refine gop fun K101 hK101 => ?_
 refine go_storeS (n := 1) rfl rfl rfl rfl (by kernel_rfl) rfl rfl rfl ?_
 refine hK101 _ _ ?_
 refine gas ?_
 refine gnt (hK100 _ _ ?_)
 refine gc_ret ?_
 refine ret_SI (n := 1) rfl rfl rfl underlying27 rfl (by kernel_rfl) rfl (fun w M => ?_)
 obtain rfl : k = es.length := by omega
 have hm := madeE_t (n := n) (es := es) (u := u) (th := th) (by omega) (by omega)
 rw [hm.1, hm.2]; exact ⟨_, rfl, ownC_star (c := buildE n es u th) (mem_pick (n := 7) (mem_pick (n := 7) (mem_pick (n := 5) (mem_pick (n := 7) (M) rfl) rfl) rfl) rfl).2, M.1⟩
end Go.Proofs.Ytbiplocgenppoaa
namespace Go.Proofs.Ytbiplocgenppoaa
open _root_.Go.Proofs.Try
open Go.RowKit
theorem oppC1_any (w : World) (x : Int) (B : Nat) (v : Value) (c : Cat) (h : RdC w v c) (hS : ShapeP c) (hbB : BxV w B 27 v) (x0 : 0 ≤ x) (x1 : x < c.ob) :
  Calls Try.prog 28 #[.int .i64 x, .pointer (some ⟨B, 0, none⟩)] w (RetV w (.int .i64 (at0 c.e x))) := by
 have h0 := h
 obtain ⟨va, vb, vc, vd, ve, vf, vg, vh, rfl, h1, h2, h3, h4, _⟩ := h.lists
 have hel := hS.el
 go_enter func28, Try.ntmps28
 refine gc_enter (N := 9) rfl (look_cons (k := 0) rfl (look_cons (k := 1) rfl (look_nil _))) ?_
 refine gc_sr fun K1 hK1 => ?_
 refine gas ?_
 refine gnt (hK1 _ _ ?_)
 refine gc_sr fun K2 hK2 => ?_
 refine gv (qtf underlying27 (z := 0) (off := 3)) ?_
 refine gv (qt_loadRB hbB rfl rfl underlying24 rfl rfl) ?_
 refine gm ?_
 refine gv (qti (fun w M => lenA_rd h3)) ?_
 refine gv (qtd (fun w M => mem_rd M h3)) ?_
 refine gas ?_
 refine gnt (hK2 _ _ ?_)
 refine gc_ret ?_
 refine ret_1 rfl rfl  (fun w M => ?_)
 exact ⟨rfl, M.1⟩
theorem oppC2_any (w : World) (f g : Int) (B : Nat) (v : Value) (c : Cat) (h : RdC w v c) (hS : ShapeP c) (hbB : BxV w B 27 v) (f0 : 0 ≤ f) (f1 : f < c.s.length) (g0 : 0 ≤ g) (g1 : g < c.s.length) :
  Calls Try.prog 29 #[.int .i64 f, .int .i64 g, .pointer (some ⟨B, 0, none⟩)] w (RetV w (.int .i64 (c.th g f))) := by
 have h0 := h
 obtain ⟨va, vb, vc, vd, ve, vf, vg, vh, rfl, h1, h2, h3, h4, _⟩ := h.lists
 have hG := arrP hS g0 g1
 have g3 := hG.fm; have g4 := hG.row
 go_enter func29, Try.ntmps29
 refine gc_enter (N := 10) rfl (look_cons (k := 0) rfl (look_cons (k := 1) rfl (look_cons (k := 2) rfl (look_nil _)))) ?_
 refine gc_sr fun K1 hK1 => ?_
 refine gas ?_
 refine gnt (hK1 _ _ ?_)
 refine gc_sr fun K2 hK2 => ?_
 refine gv (qt_loadRS hbB rfl rfl underlying27 rfl (by kernel_rfl)) ?_
 refine gm ?_
 refine gm ?_
 refine g_q (.free rfl) rfl rfl (qt_call rfl func30 rfl (by decide) rfl (fun w M => then_any w _ _ _ _ (mem_rdC M h0) (by first | assumption | omega) (by first | assumption | omega) (by first | assumption | omega) (by first | assumption | omega))) ?_
 refine gas ?_
 refine gnt (hK2 _ _ ?_)
 refine gc_ret ?_
 refine ret_1 rfl rfl  (fun w M => ?_)
 exact ⟨rfl, M.1⟩
theorem opp_made {c : Cat} (hC : IsCat c) : madeE c.ob (entsTo (entO c) c.s.length) (fun x => at0 c.e (x : Int)) (fun f g => c.th g f) = oppM c ∧ madeEc c.ob (entsTo (entO c) c.s.length) = 0 := by
 have hS := hC.toShapeP
 have htl := hS.tl; have hel := hS.el; have hob0 := hS.ob0; have hml := hS.ml
 have h := madeE_t (n := c.ob) (es := entsTo (entO c) c.s.length) (u := fun x => at0 c.e (x : Int)) (th := fun f g => c.th g f) hS.ob8 (by rw [entsTo_len]; exact hS.n40)
 refine ⟨h.1.trans ?_, h.2⟩
 have hinj : ∀ i j, i < c.s.length → j < c.s.length → entO c i = entO c j → i = j := fun i j _ _ h => entO_inj c i j h
 refine buildE_to rfl htl rfl (by show c.e.length = _; omega) (rowsTo_len _ _) (fun i hi => ?_) (fun i hi => rfl) (fun i hi => rfl) (fun x hx => ?_) (fun i j hi hj => ?_)
 ·show (row2 (rowsTo _ _) (i : Int)).length = _
  rw [rowsTo_at _ hi, tabTo_len]
 ·have hid := hS.idn (x := (x : Int)) (by omega) (by omega)
  refine (posE_int hinj hid.1 hid.2.1 ?_).symm
  show (at0 c.t _, at0 c.s _, _) = _
  rw [Int.toNat_of_nonneg hid.1, hid.2.2.1, hid.2.2.2]
 show at0 (row2 (rowsTo _ _) (i : Int)) (j : Int) = _
 rw [rowsTo_at _ hi, tabTo_at _ hj]
 unfold cellE
 by_cases he : at0 c.t (j : Int) = at0 c.s (i : Int)
 ·have hT := th_ends hS (f := (j : Int)) (g := (i : Int)) (by omega) (by omega) (by omega) (by omega) he
  rw [if_pos (show (entO c i).2.1 = (entO c j).1 from he.symm)]
  refine (posE_int hinj hT.1.1 hT.1.2 ?_).symm
  show (at0 c.t _, at0 c.s _, _) = _
  rw [Int.toNat_of_nonneg hT.1.1, hT.2.1, hT.2.2]
  rfl
 rw [if_neg (show ¬ (entO c i).2.1 = (entO c j).1 from fun h => he h.symm)]
 exact (th_none hS (f := (j : Int)) (g := (i : Int)) (by omega) (by omega) (by omega) (by omega)).2 he
theorem impl_OppositeCategory (w : World) (v : Value) (c : Cat) (h : RdC w v c) :
  Calls Try.prog 9 #[v] w (RetCI w (fOppositeCategory c).1 (fOppositeCategory c).2) := by
 have h0 := h
 obtain ⟨va, vb, vc, vd, ve, vf, vg, vh, rfl, h1, h2, h3, h4, _⟩ := h.lists
 go_enter func9, Try.ntmps9
 refine gc_enter (N := 45) rfl (look_cons (k := 0) rfl (look_nil _)) ?_
 refine gc_sr fun K1 hK1 => ?_
 refine gop fun K3 hK3 => ?_
 refine go_box rfl rfl rfl rfl rfl ?_
 intro B2
 refine hK3 _ _ ?_
 refine gop fun K5 hK5 => ?_
 refine go_alloc (z := (.agg #[.int .i64 0, .slice none 0 0, .slice none 0 0, .slice none 0 0, .slice none 0 0])) (cs := [.int .i64 0, .slice none 0 0, .slice none 0 0, .slice none 0 0, .slice none 0 0]) rfl rfl rfl (fun w => by kernel_rfl) rfl ?_
 intro B4
 refine hK5 _ _ ?_
 refine gas ?_
 refine gnt (hK1 _ _ ?_)
 refine gc_sr fun K6 hK6 => ?_
 refine gv (qts underlying27 (n := 0)) ?_
 refine gop fun K8 hK8 => ?_
 refine go_callCI rfl rfl rfl func27 rfl (by decide) rfl (fun w M => readCat_any w _ _ (mem_rdC M h0)) ?_
 intro ca7 cb7 cc7 cd7 ce7 cf7 cg7 ch7 cu7
 refine hK8 _ _ ?_
 refine gm ?_
 refine gv (qt_extract rfl rfl rfl) ?_
 refine gv (qt_extract rfl rfl rfl) ?_
 refine gop fun K10 hK10 => ?_
 refine go_alloc (z := (.agg #[.int .i64 0, .slice none 0 0, .slice none 0 0, .slice none 0 0, .slice none 0 0])) (cs := [.int .i64 0, .slice none 0 0, .slice none 0 0, .slice none 0 0, .slice none 0 0]) rfl rfl rfl (fun w => by kernel_rfl) rfl ?_
 intro B9
 refine hK10 _ _ ?_
 refine gop fun K11 hK11 => ?_
 refine go_storeS (n := 6) rfl rfl rfl rfl (by kernel_rfl) rfl rfl rfl ?_
 refine hK11 _ _ ?_
 refine gas ?_
 refine gnt (hK6 _ _ ?_)
 refine gc_seq fun K12 hK12 => ?_
 refine gc_sr fun K13 hK13 => ?_
 refine gm ?_
 refine gv (qt_neq rfl rfl rfl) ?_
 refine gnt (hK13 _ _ ?_)
 refine gc_cond rfl (fun hc0 => ?_) (fun hc0 => ?_)
 ·try simp only [sA] at hc0
  refine gc_sr fun K14 hK14 => ?_
  refine gv (qt_build rfl rfl bt0_Category) ?_
  refine gm ?_
  refine gop fun K15 hK15 => ?_
  refine go_storeS (n := 1) rfl rfl rfl rfl (by kernel_rfl) rfl rfl rfl ?_
  refine hK15 _ _ ?_
  refine gas ?_
  refine gnt (hK14 _ _ ?_)
  refine gc_ret ?_
  refine gk_then_ret ?_
  refine ret_SI (n := 1) rfl rfl rfl underlying27 rfl (by kernel_rfl) rfl (fun w M => ?_)
  rw [(catErr_n hc0).2, opp_f (catErr_n hc0).1]; exact ⟨_, rfl, ownC_zero _ _, M.1⟩
 try simp only [sA] at hc0
 refine gc_skip ?_
 refine gk_then (hK12 _ _ ?_)
 refine gc_seq fun K16 hK16 => ?_
 have hI := catErr_0 hc0
 simp only [catCat_t hc0]
 have hS := (isCat_of hI).toShapeP
 have hn40 := hS.n40; have htl := hS.tl; have hel := hS.el; have hob0 := hS.ob0; have hob8 := hS.ob8; have hml := hS.ml
 refine gc_region ?_
 refine gv (qtf underlying27 (z := 0) (off := 0)) ?_
 refine gv (qtl underlying2 (n := 6)) ?_
 refine gv (qt_makeF rfl rfl) ?_
 refine gv (qt_makeF rfl rfl) ?_
 refine gv (qt_build rfl rfl bt023_plan_int64) ?_
 refine gop fun K18 hK18 => ?_
 refine go_alloc (z := (.agg #[.int .i64 0, .slice none 0 0, .nilFunc, .nilFunc])) (cs := [.int .i64 0, .slice none 0 0, .nilFunc, .nilFunc]) rfl rfl rfl (fun w => by kernel_rfl) rfl ?_
 intro B17
 refine hK18 _ _ ?_
 refine gop fun K19 hK19 => ?_
 refine go_storeS (n := 7) rfl rfl rfl rfl (by kernel_rfl) rfl rfl rfl ?_
 refine hK19 _ _ ?_
 refine gnt (hK16 _ _ ?_)
 refine gc_seq fun K20 hK20 => ?_
 refine gc_sr fun K21 hK21 => ?_
 refine gv (qts underlying27 (n := 6)) ?_
 refine g_q (.free rfl) rfl rfl (qt_call rfl func31 rfl (by decide) rfl (fun w M => arrows_any w _ _ (rdC_mk ((mem_own1 (n := 2) M rfl).rd) ((mem_own1 (n := 3) M rfl).rd) ((mem_own1 (n := 4) M rfl).rd) (mem_rdU (n := 5) M rfl)))) ?_
 refine gm ?_
 refine gnt (hK21 _ _ ?_)
 refine gc_block ?_
 refine gc_nilE lab_int ?_
 try simp only [sL]
 refine gc_loopT ([(0, _), (1, _), (2, _), (3, _), (4, _), (5, _), (6, _), (14, _), (23, _)] : Env) (fun s : Nat × (Option Addr) × Nat => (fun (k : Nat) (a : Option Addr) (q : Nat) => (([(24, .int .i64 (k : Int))] : Env), ([(7, bxI B17 55 [.int .i64 c.ob, .slice a (entsTo (entO c) k).length q, .func (.func 28) #[] #[.pointer (some ⟨B9, 0, none⟩)], .func (.func 29) #[] #[.pointer (some ⟨B9, 0, none⟩)]]), (8, ownEI lab_int (.slice a (entsTo (entO c) k).length q) (entsTo (entO c) k))] : List (Nat × Itm)), k ≤ c.s.length, c.s.length - k)) s.1 s.2.1 s.2.2) (0, _, _) (by repeat first | exact sub_nil | refine sub_cons rfl ?_) rfl (Nat.zero_le _) ?_
 rintro ⟨k, a, q⟩ hinv KL22 hKL22
 simp only [sU, sL] at hinv hKL22 ⊢
 have hk := hinv
 have hl := entsTo_len (entO c) k
 refine gc_sr fun K23 hK23 => ?_
 refine gv (qt_lss rfl rfl rfl) ?_
 refine gnt (hK23 _ _ ?_)
 refine gc_seq fun K24 hK24 => ?_
 refine gc_cond rfl (fun hc1 => ?_) (fun hc1 => ?_)
 ·try simp only [sA] at hc1
  refine gc_skip ?_
  refine gk_then (hK24 _ _ ?_)
  refine gc_seq fun K25 hK25 => ?_
  refine gc_block ?_
  refine gc_sr fun K26 hK26 => ?_
  refine gm ?_
  refine gas ?_
  refine gnt (hK26 _ _ ?_)
  try simp only [sL]
  refine ga_start _ (fun w M => mem_erase 7 (mem_erase 8 (M))) ?_
  refine gav 0 rfl (qtf underlying27 (z := 0) (off := 2)) ?_
  refine gav 1 rfl (qtl underlying24 (n := 6)) ?_
  refine gav 2 rfl (qt_move rfl rfl) ?_
  refine gav 3 rfl (qti (fun w M => lenA_own1 (n := 3) rfl M)) ?_
  refine gav 4 rfl (qtd (fun w M => (mem_own1 (n := 3) M rfl).rd)) ?_
  refine gav 5 rfl (qtf underlying27 (z := 0) (off := 1)) ?_
  refine gav 6 rfl (qtl underlying24 (n := 6)) ?_
  refine gav 7 rfl (qt_move rfl rfl) ?_
  refine gav 8 rfl (qti (fun w M => lenA_own1 (n := 2) rfl M)) ?_
  refine gav 9 rfl (qtd (fun w M => (mem_own1 (n := 2) M rfl).rd)) ?_
  refine gav 10 rfl (qt_build rfl rfl bt_arrowEnds) ?_
  refine gav 11 rfl (qt_move rfl rfl) ?_
  refine gao 12 fun K28 hK28 => ?_
  refine go_two (n := 7) (m := 8) (m' := 7) (σ := Option Addr × Nat) rfl rfl rfl func32 rfl (by decide) rfl rfl rfl (fun z => rfl) (fun R w M => add_int _ w R _ _ _ _ _ _ _ _ _ _ (by omega) M) ?_
  intro ⟨sa27, sq27⟩
  refine hK28 _ _ (fun w M => (ms0 7 8 9 M :)) ?_
  refine ga_done (by kernel_rfl) ?_
  refine gk_block ?_
  refine gk_then (hK25 _ _ ?_)
  refine gc_region ?_
  refine gv (qt_add rfl rfl rfl (by omega)) ?_
  refine gm ?_
  refine g_nil ?_
  simp only [entO_def, entsTo_succ]
  refine gk_then (gk_take 9 ?_)
  refine gk_sub ?hs_29 (hKL22 (k + 1, _, _) ?hi_29 ?hm_29)
  case hs_29 => repeat first | exact sub_nil | refine sub_cons rfl ?_
  case hi_29 => omega
  case hm_29 => omega
 try simp only [sA] at hc1
 refine gc_exit ?_
 refine gk_then_exit ?_
 refine gk_then_exit ?_
 refine gk_block_hit ?_
 refine gk_then (hK20 _ _ ?_)
 refine gc_seq fun K30 hK30 => ?_
 obtain rfl : k = c.s.length := by omega
 refine gc_region ?_
 refine gv (qts underlying55 (n := 7)) ?_
 refine gop fun K32 hK32 => ?_
 refine go_callCI rfl rfl rfl func33 rfl (by decide) rfl (fun w M => build_int w _ _ (entsTo (entO c) c.s.length) (mem_ownE (n := 8) M rfl) (entsTo_nodup fun i j _ _ h => entO_inj c i j h) (by omega) _ _ (fun x => at0 c.e (x : Int)) (⟨_, func28, rfl, by decide⟩) (fun w' hb x hx => oppC1_any w' (x : Int) _ _ c (rdC_below hb (rdC_mk ((mem_own1 (n := 2) M rfl).rd) ((mem_own1 (n := 3) M rfl).rd) ((mem_own1 (n := 4) M rfl).rd) (mem_rdU (n := 5) M rfl))) hS (bxV_below hb (bxV_of (n := 6) M rfl)) (by omega) hx) _ _ (fun f g => c.th g f) (⟨_, func29, rfl, by decide⟩) (fun w' hb f hf g hg _ => by obtain ⟨i, hi, rfl⟩ := entsTo_mem.1 hf; obtain ⟨j, hj, rfl⟩ := entsTo_mem.1 hg; exact oppC2_any w' (i : Int) (j : Int) _ _ c (rdC_below hb (rdC_mk ((mem_own1 (n := 2) M rfl).rd) ((mem_own1 (n := 3) M rfl).rd) ((mem_own1 (n := 4) M rfl).rd) (mem_rdU (n := 5) M rfl))) hS (bxV_below hb (bxV_of (n := 6) M rfl)) (by omega) (by omega) (by omega) (by omega))) ?_
 intro ca31 cb31 cc31 cd31 ce31 cf31 cg31 ch31 cu31
 refine hK32 _ _ ?_
 refine gv (qt_extract rfl rfl rfl) ?_
 refine gv (qt_extract rfl rfl rfl) ?_
 refine gop fun K33 hK33 => ?_
 refine go_storeS (n := 1) rfl rfl rfl rfl (by kernel_rfl) rfl rfl rfl ?_
 refine hK33 _ _ ?_
 refine gas ?_
 refine gnt (hK30 _ _ ?_)
 refine gc_ret ?_
 refine ret_SI (n := 1) rfl rfl rfl underlying27 rfl (by kernel_rfl) rfl (fun w M => ?_)
 have hm := opp_made (isCat_of hI)
 rw [opp_t hI]
 exact retCI_eq hm.1 hm.2 ⟨_, rfl, ownC_star (mem_pick (n := 12) (mem_pick (n := 12) (mem_pick (n := 12) (mem_pick (n := 12) (M) rfl) rfl) rfl) rfl).2, M.1⟩
end Go.Proofs.Ytbiplocgenppoaa
