import Derived.Test.YtpcabkdkdnchaaaGreatN6
import Derived.Test.YtpcabkdkdnchaaaGreatN10
import Derived.Test.YtpcabkdkdnchaaaGreatN9
set_option linter.unusedSimpArgs false
set_option linter.unusedVariables false
set_option linter.unusedSectionVars false
namespace Go.Proofs.YtpcabkdkdnchaaaGreat
open Go.RowKit
section
variable {α : Type} [Inhabited α]
theorem atE_mem {es : List (Ent α)} {k : Nat} (h : k < es.length) : atE es (k : Int) ∈ es := by
 simp only [atE, Int.toNat_natCast, List.getD_eq_getElem?_getD, List.getElem?_eq_getElem h, Option.getD_some]; exact List.getElem_mem h
theorem atE_eq {es : List (Ent α)} {k : Nat} (h : k < es.length) : atE es (k : Int) = es[k] := by
 simp [atE, List.getD_eq_getElem?_getD, List.getElem?_eq_getElem h]
theorem takeE_succ {es : List (Ent α)} {k : Nat} (h : k < es.length) : es.take k ++ [((atE es (k : Int)).1, (atE es (k : Int)).2.1, (atE es (k : Int)).2.2)] = es.take (k + 1) := by
 rw [List.take_succ_eq_append_getElem h, ← atE_eq h]
theorem takeE_not {es : List (Ent α)} (hn : es.Nodup) {k : Nat} (h : k < es.length) : ((atE es (k : Int)).1, (atE es (k : Int)).2.1, (atE es (k : Int)).2.2) ∉ es.take k := by
 intro hm
 have he : ((atE es (k : Int)).1, (atE es (k : Int)).2.1, (atE es (k : Int)).2.2) = es[k] := by rw [← atE_eq h]
 rw [he] at hm
 obtain ⟨j, hj, he2⟩ := List.getElem_of_mem hm
 simp only [List.length_take] at hj
 rw [List.getElem_take] at he2
 exact List.pairwise_iff_getElem.1 hn j k (by omega) h (by omega) he2
variable [DecidableEq α]
noncomputable def cellE (es : List (Ent α)) (th : α → α → α) (f g : Ent α) : Int := if f.2.1 = g.1 then posE es (f.1, g.2.1, th f.2.2 g.2.2) else -1
noncomputable def rowE (es : List (Ent α)) (th : α → α → α) (f : Ent α) : List Int := tabTo (fun j => cellE es th f (atE es (j : Int))) es.length
theorem rowE_eta (es fs : List (Ent α)) (th : α → α → α) (k : Int) : rowE es th ((atE fs k).1, (atE fs k).2.1, (atE fs k).2.2) = rowE es th (atE fs k) := rfl
noncomputable def buildE (n : Int) (es : List (Ent α)) (u : Nat → α) (th : α → α → α) : Cat :=
 ⟨n, tabTo (fun i => (atE es (i : Int)).1) es.length, tabTo (fun i => (atE es (i : Int)).2.1) es.length, tabTo (fun x => posE es ((x : Int), (x : Int), u x)) n.toNat, rowsTo (fun i => rowE es th (atE es (i : Int))) es.length⟩
noncomputable def madeE (n : Int) (es : List (Ent α)) (u : Nat → α) (th : α → α → α) : Cat := if n ≤ 8 ∧ es.length ≤ 40 then buildE n es u th else cat0
noncomputable def madeEc (n : Int) (es : List (Ent α)) : Int := if n ≤ 8 ∧ es.length ≤ 40 then 0 else 3
theorem madeE_t {n : Int} {es : List (Ent α)} {u : Nat → α} {th : α → α → α} (h : n ≤ 8) (h' : es.length ≤ 40) : madeE n es u th = buildE n es u th ∧ madeEc n es = 0 := ⟨if_pos ⟨h, h'⟩, if_pos ⟨h, h'⟩⟩
theorem madeE_f {n : Int} {es : List (Ent α)} {u : Nat → α} {th : α → α → α} (h : ¬ (n ≤ 8 ∧ es.length ≤ 40)) : madeE n es u th = cat0 ∧ madeEc n es = 3 := ⟨if_neg h, if_neg h⟩
end
theorem takeE_len {α : Type} {es : List (Ent α)} {k : Nat} (h : k < es.length) : (k : Int) = (es.take k).length := by simp; omega
theorem fillTo_set' {φ : Nat → Int} {n k : Nat} {v : Int} (h : k < n) (hv : φ k = v) : (fillTo φ n k).set ((k : Int)).toNat v = fillTo φ n (k + 1) := by subst hv; exact fillTo_set φ h
set_option maxHeartbeats 1000000 in
set_option maxRecDepth 100000 in
theorem numbered_bool (w : World) (va : Value) (es : List (Ent Bool)) (hE : RdE lab_bool w va es) (hnd : es.Nodup) :
  Calls Tryz.prog 178 #[va] w (RetN lab_bool w es) := by
 obtain ⟨aa, ac, rfl⟩ := lenV_E hE
 have hel : es.length ≤ 5000000000001 := by obtain ⟨_, _, _, hl, _⟩ := hE; exact hl
 go_enter Tryz.func178, Tryz.ntmps178
 refine gc_enter (N := 19) rfl (look_cons (k := 0) rfl (look_nil _)) ?_
 refine gc_sr fun K1 hK1 => ?_
 refine gas ?_
 refine gnt (hK1 _ _ ?_)
 refine gc_sr fun K2 hK2 => ?_
 refine gop fun K4 hK4 => ?_
 refine go_makeNum lab_bool rfl rfl rfl ?_
 intro B3
 refine hK4 _ _ ?_
 refine gas ?_
 refine gnt (hK2 _ _ ?_)
 refine gc_seq fun K5 hK5 => ?_
 refine gc_sr fun K6 hK6 => ?_
 refine gm ?_
 refine gv (qt_len rfl rfl (lab_ul lab_bool) (fun w M => lenV_E (mem_rdE M hE))) ?_
 refine gm ?_
 refine gnt (hK6 _ _ ?_)
 refine gc_block ?_
 try simp only [sL]
 refine gc_loopT ([(0, _), (2, _), (3, _), (7, _), (8, _)] : Env) (fun s : Nat => (fun (k : Nat) => (([(9, .int .i64 (k : Int))] : Env), ([(0, numI lab_bool B3 (es.take k))] : List (Nat × Itm)), k ≤ es.length, es.length - k)) s) (0) (by repeat first | exact sub_nil | refine sub_cons rfl ?_) rfl (Nat.zero_le _) ?_
 rintro k hinv KL7 hKL7
 simp only [sU, sL] at hinv hKL7 ⊢
 have hk := hinv
 refine gc_sr fun K8 hK8 => ?_
 refine gv (qt_lss rfl rfl rfl) ?_
 refine gnt (hK8 _ _ ?_)
 refine gc_seq fun K9 hK9 => ?_
 refine gc_cond rfl (fun hc0 => ?_) (fun hc0 => ?_)
 ·try simp only [sA] at hc0
  refine gc_skip ?_
  refine gk_then (hK9 _ _ ?_)
  refine gc_seq fun K10 hK10 => ?_
  refine gc_block ?_
  refine gc_sr fun K11 hK11 => ?_
  refine gm ?_
  refine gv (qt_indexE lab_bool rfl rfl rfl rfl (fun w M => lenA_E (mem_rdE M hE)) (by omega) (by omega)) ?_
  refine gv (qt_loadE lab_bool rfl rfl rfl (fun w M => mem_rdE M hE) (by omega) (by omega)) ?_
  refine gop fun K13 hK13 => ?_
  refine go_alloc (z := (.agg #[.int .i64 0, .int .i64 0, .bool false])) (cs := [.int .i64 0, .int .i64 0, .bool false]) rfl rfl rfl (fun w => by kernel_rfl) rfl ?_
  intro B12
  refine hK13 _ _ ?_
  refine gas ?_
  refine gop fun K14 hK14 => ?_
  refine go_storeS (n := 1) rfl rfl rfl rfl (by kernel_rfl) rfl rfl rfl ?_
  refine hK14 _ _ ?_
  refine gnt (hK11 _ _ ?_)
  refine gc_region ?_
  refine gm ?_
  refine gv (qts Tryz.underlying199 (n := 1)) ?_
  refine gm ?_
  refine gop fun K15 hK15 => ?_
  refine go_putN lab_bool (n := 0) rfl rfl rfl rfl rfl rfl rfl (takeE_not hnd (k := k) (by omega)) (takeE_len (k := k) (by omega)) ?_
  refine hK15 _ _ ?_
  refine g_nil ?_
  refine gk_block ?_
  refine gk_then (hK10 _ _ ?_)
  refine gc_region ?_
  refine gv (qt_add rfl rfl rfl (by omega)) ?_
  refine gm ?_
  refine g_nil ?_
  rw [takeE_succ (by omega)]
  refine gk_then (gk_take 1 ?_)
  refine gk_sub ?hs_16 (hKL7 (k + 1) ?hi_16 ?hm_16)
  case hs_16 => repeat first | exact sub_nil | refine sub_cons rfl ?_
  case hi_16 => omega
  case hm_16 => omega
 ·try simp only [sA] at hc0
  refine gc_exit ?_
  refine gk_then_exit ?_
  refine gk_then_exit ?_
  refine gk_block_hit ?_
  refine gk_then (hK5 _ _ ?_)
  refine gc_sr fun K17 hK17 => ?_
  refine gm ?_
  refine gas ?_
  refine gnt (hK17 _ _ ?_)
  refine gc_ret ?_
  refine ret_1 rfl rfl  (fun w M => ?_)
  obtain rfl : k = es.length := by omega
  rw [List.take_length] at M
  obtain ⟨S, hS, hb⟩ := mem_get (n := 0) M rfl
  exact ⟨_, rfl, (numM_loc lab_bool _ es).keep (fun q _ hq => hS q hq) agree_refl hb, M.1⟩
theorem bt023_plan_bool {n : Int} {f g : Fn} {a b c d : Array Value} : Tryz.prog.built 192 [(0, .int .i64 n), (2, .func f a b), (3, .func g c d)] = some #[.int .i64 n, .slice none 0 0, .func f a b, .func g c d] := by kernel_rfl
set_option maxHeartbeats 1000000 in
set_option maxRecDepth 100000 in
theorem add_bool (w0 w : World) (R : Itm) (PB : Nat) (n x y : Int) (l : Bool) (a : Option Addr) (q : Nat) (es : List (Ent Bool)) (F1 F2 : Value) (hn : es.length + 1 ≤ 5000000000001) (M : Mem w0 w [bxI PB 192 [.int .i64 n, .slice a es.length q, F1, F2], ownEI lab_bool (.slice a es.length q) es, R]) :
  Calls Tryz.prog 169 #[.pointer (some ⟨PB, 0, none⟩), .agg #[.int .i64 x, .int .i64 y], Value.bool (l)] w (fun e w' => ∃ s : Option Addr × Nat, e = .returned (.tuple #[]) ∧ Mem w0 w' [bxI PB 192 [.int .i64 n, .slice s.1 (es ++ [(x, y, l)]).length s.2, F1, F2], ownEI lab_bool (.slice s.1 (es ++ [(x, y, l)]).length s.2) (es ++ [(x, y, l)]), R]) := by
 go_enter Tryz.func169, Tryz.ntmps169
 refine gc_enterM M (N := 18) rfl (look_cons (k := 0) rfl (look_cons (k := 1) rfl (look_cons (k := 2) rfl (look_nil _)))) ?_
 clear M
 refine gc_sr fun K1 hK1 => ?_
 refine gop fun K3 hK3 => ?_
 refine go_box rfl rfl rfl rfl rfl ?_
 intro B2
 refine hK3 _ _ ?_
 refine gnt (hK1 _ _ ?_)
 try simp only [sL]
 refine ga_start _ (fun w M => mem_erase 0 (mem_erase 1 (M))) ?_
 refine gav 0 rfl (qt_move rfl rfl) ?_
 refine gav 1 rfl (qt_move rfl rfl) ?_
 refine gav 2 rfl (qt_nilP rfl rfl) ?_
 refine gav 3 rfl (qtf Tryz.underlying192 (z := 0) (off := 1)) ?_
 refine gav 5 rfl (qts Tryz.underlying72 (n := 1)) ?_
 refine gav 6 rfl (qt_move rfl rfl) ?_
 refine gav 7 rfl (qt_build rfl rfl bt_pairOf_arrowEnds_bool) ?_
 refine ga_two 4 8 (by kernel_rfl) rfl rfl (.free rfl) (.free rfl) (fun K4 hK4 => ?_) (fun K4 hK4 => ?_)
 ·refine gov (qtl Tryz.underlying190 (n := 0)) ?_
  refine hK4 _ _ (fun w M => (mem_erase 0 (mem_erase 1 (mem_take 4 M)) :)) ?_
  refine gao 8 fun K7 hK7 => ?_
  refine go_sliceE1 lab_bool rfl rfl rfl rfl rfl ?_
  intro B6
  refine hK7 _ _ (fun w M => (mem_erase 0 (mem_erase 1 (mem_take 4 M)) :)) ?_
  refine gao 9 fun K9 hK9 => ?_
  refine go_appendE lab_bool (n := 1) (m := 4) rfl rfl rfl rfl rfl rfl rfl rfl (show _ ≤ 5000000000001 by omega) ?_
  intro va8 vc8
  refine hK9 _ _ (fun w M => (mem_erase 0 (mem_erase 1 (mem_take 4 M)) :)) ?_
  refine gav 10 rfl (qt_nilP rfl rfl) ?_
  refine gav 11 rfl (qtf Tryz.underlying192 (z := 0) (off := 1)) ?_
  refine gao 12 fun K10 hK10 => ?_
  refine go_storeB (n := 0) rfl rfl rfl rfl (by kernel_rfl) rfl rfl rfl (by first | decide | simp) ?_
  refine hK10 _ _ (fun w M => (mem_erase 0 (mem_erase 1 (mem_take 4 M)) :)) ?_
  refine ga_done (by kernel_rfl) ?_
  refine ret_0n rfl (fun w M => ?_)
  exact ⟨(_, _), rfl, mem_take 3 M⟩
 ·refine go_sliceE1 lab_bool rfl rfl rfl rfl rfl ?_
  intro B11
  refine hK4 _ _ (fun w M => (mem_erase 0 (mem_erase 1 (mem_take 4 M)) :)) ?_
  refine gao 4 fun K13 hK13 => ?_
  refine gov (qtl Tryz.underlying190 (n := 0)) ?_
  refine hK13 _ _ (fun w M => (mem_erase 0 (mem_erase 1 (mem_take 4 M)) :)) ?_
  refine gao 9 fun K15 hK15 => ?_
  refine go_appendE lab_bool (n := 1) (m := 4) rfl rfl rfl rfl rfl rfl rfl rfl (show _ ≤ 5000000000001 by omega) ?_
  intro va14 vc14
  refine hK15 _ _ (fun w M => (mem_erase 0 (mem_erase 1 (mem_take 4 M)) :)) ?_
  refine gav 10 rfl (qt_nilP rfl rfl) ?_
  refine gav 11 rfl (qtf Tryz.underlying192 (z := 0) (off := 1)) ?_
  refine gao 12 fun K16 hK16 => ?_
  refine go_storeB (n := 0) rfl rfl rfl rfl (by kernel_rfl) rfl rfl rfl (by first | decide | simp) ?_
  refine hK16 _ _ (fun w M => (mem_erase 0 (mem_erase 1 (mem_take 4 M)) :)) ?_
  refine ga_done (by kernel_rfl) ?_
  refine ret_0n rfl (fun w M => ?_)
  exact ⟨(_, _), rfl, mem_take 3 M⟩
set_option maxHeartbeats 1000000 in
set_option maxRecDepth 100000 in
theorem row_bool (w : World) (n : Int) (va : Value) (es : List (Ent Bool)) (hE : RdE lab_bool w va es) (fu : FuncId) (cu : List Value) (ft : FuncId) (ct : List Value) (th : Bool → Bool → Bool) (ot : Opn ft) (ht : ∀ w', Below w.heap.size w w' → ∀ f ∈ es, ∀ g ∈ es, f.2.1 = g.1 → Calls Tryz.prog ft ([Value.bool (f.2.2), Value.bool (g.2.2)] ++ ct).toArray w' (RetV w' (Value.bool (th f.2.2 g.2.2)))) (x y : Int) (l : Bool) (hf : (x, y, l) ∈ es) (NB : Nat) (hN : RdN lab_bool w NB es) :
  Calls Tryz.prog 179 #[.agg #[.int .i64 n, va, .func (.func fu) #[] cu.toArray, .func (.func ft) #[] ct.toArray], .agg #[.int .i64 x, .int .i64 y, Value.bool (l)], .map (some NB)] w (RetL w (rowE es th (x, y, l))) := by
 obtain ⟨aa, ac, rfl⟩ := lenV_E hE
 have hel : es.length ≤ 5000000000001 := by obtain ⟨_, _, _, hl, _⟩ := hE; exact hl
 go_enter Tryz.func179, Tryz.ntmps179
 refine gc_enter (N := 56) rfl (look_cons (k := 0) rfl (look_cons (k := 1) rfl (look_cons (k := 2) rfl (look_nil _)))) ?_
 refine gc_sr fun K1 hK1 => ?_
 refine gop fun K3 hK3 => ?_
 refine go_box rfl rfl rfl rfl rfl ?_
 intro B2
 refine hK3 _ _ ?_
 refine gop fun K5 hK5 => ?_
 refine go_box rfl rfl rfl rfl rfl ?_
 intro B4
 refine hK5 _ _ ?_
 refine gas ?_
 refine gnt (hK1 _ _ ?_)
 refine gc_sr fun K6 hK6 => ?_
 refine gv (qtf Tryz.underlying192 (z := 0) (off := 1)) ?_
 refine gv (qtl Tryz.underlying190 (n := 0)) ?_
 refine gv (qt_len rfl rfl (lab_ul lab_bool) (fun w M => lenV_E (mem_rdE M hE))) ?_
 refine gop fun K8 hK8 => ?_
 refine go_make1 rfl rfl rfl Tryz.underlying22 rfl rfl (by omega) ?_
 intro B7
 refine hK8 _ _ ?_
 refine gas ?_
 refine gnt (hK6 _ _ ?_)
 refine gc_seq fun K9 hK9 => ?_
 refine gc_sr fun K10 hK10 => ?_
 refine gv (qtf Tryz.underlying192 (z := 0) (off := 1)) ?_
 refine gv (qtl Tryz.underlying190 (n := 0)) ?_
 refine gv (qt_len rfl rfl (lab_ul lab_bool) (fun w M => lenV_E (mem_rdE M hE))) ?_
 refine gm ?_
 refine gnt (hK10 _ _ ?_)
 refine gc_block ?_
 rw [fillTo_zero (fun j => cellE es th (x, y, l) (atE es (j : Int))) es.length]
 try simp only [sL]
 refine gc_loopT ([(0, _), (1, _), (2, _), (3, _), (4, _), (6, _), (7, _), (16, _), (17, _)] : Env) (fun s : Nat => (fun (k : Nat) => (([(18, .int .i64 (k : Int))] : Env), ([(2, own1I (.slice (some ⟨B7, 0, none⟩) es.length es.length) (fillTo (fun j => cellE es th (x, y, l) (atE es (j : Int))) es.length k))] : List (Nat × Itm)), k ≤ es.length, es.length - k)) s) (0) (by repeat first | exact sub_nil | refine sub_cons rfl ?_) rfl (Nat.zero_le _) ?_
 rintro k hinv KL11 hKL11
 simp only [sU, sL] at hinv hKL11 ⊢
 have hk := hinv
 have hfl := fillTo_len (fun j => cellE es th (x, y, l) (atE es (j : Int))) es.length k
 refine gc_sr fun K12 hK12 => ?_
 refine gv (qt_lss rfl rfl rfl) ?_
 refine gnt (hK12 _ _ ?_)
 refine gc_seq fun K13 hK13 => ?_
 refine gc_cond rfl (fun hc0 => ?_) (fun hc0 => ?_)
 ·try simp only [sA] at hc0
  refine gc_skip ?_
  refine gk_then (hK13 _ _ ?_)
  refine gc_seq fun K14 hK14 => ?_
  refine gc_block ?_
  refine gc_sr fun K15 hK15 => ?_
  refine gm ?_
  refine gv (qt_indexE lab_bool rfl rfl rfl rfl (fun w M => lenA_E (mem_rdE M hE)) (by omega) (by omega)) ?_
  refine gv (qt_loadE lab_bool rfl rfl rfl (fun w M => mem_rdE M hE) (by omega) (by omega)) ?_
  refine gop fun K17 hK17 => ?_
  refine go_alloc (z := (.agg #[.int .i64 0, .int .i64 0, .bool false])) (cs := [.int .i64 0, .int .i64 0, .bool false]) rfl rfl rfl (fun w => by kernel_rfl) rfl ?_
  intro B16
  refine hK17 _ _ ?_
  refine gas ?_
  refine gop fun K18 hK18 => ?_
  refine go_storeS (n := 3) rfl rfl rfl rfl (by kernel_rfl) rfl rfl rfl ?_
  refine hK18 _ _ ?_
  refine gnt (hK15 _ _ ?_)
  refine gc_seq fun K19 hK19 => ?_
  refine gc_sr fun K20 hK20 => ?_
  refine gv (qtf Tryz.underlying199 (z := 1) (off := 0)) ?_
  refine gv (qtf Tryz.underlying72 (z := 0) (off := 1)) ?_
  refine gv (qtl Tryz.underlying2 (n := 1)) ?_
  refine gv (qtf Tryz.underlying199 (z := 1) (off := 0)) ?_
  refine gv (qtf Tryz.underlying72 (z := 0) (off := 0)) ?_
  refine gv (qtl Tryz.underlying2 (n := 3)) ?_
  refine gv (qt_neq rfl rfl rfl) ?_
  refine gnt (hK20 _ _ ?_)
  refine gc_cond rfl (fun hc1 => ?_) (fun hc1 => ?_)
  ·try simp only [sA] at hc1
   refine gc_sr fun K21 hK21 => ?_
   refine gm ?_
   refine gm ?_
   refine gv (qti (fun w M => lenA_own1 (n := 2) rfl M)) ?_
   refine gop fun K22 hK22 => ?_
   refine go_store1 (n := 2) rfl rfl rfl rfl (by kernel_rfl) rfl (by omega) (by omega) ?_
   refine hK22 _ _ ?_
   refine gnt (hK21 _ _ ?_)
   refine gc_exit ?_
   refine gk_then_exit ?_
   refine gk_block_hit ?_
   refine gk_then (hK14 _ _ ?_)
   refine gc_region ?_
   refine gv (qt_add rfl rfl rfl (by omega)) ?_
   refine gm ?_
   refine g_nil ?_
   rw [fillTo_set' (φ := fun j => cellE es th (x, y, l) (atE es (j : Int))) (by omega) (if_neg hc1)]
   refine gk_then (gk_take 3 ?_)
   refine gk_sub ?hs_23 (hKL11 (k + 1) ?hi_23 ?hm_23)
   case hs_23 => repeat first | exact sub_nil | refine sub_cons rfl ?_
   case hi_23 => omega
   case hm_23 => omega
  ·try simp only [sA] at hc1
   refine gc_skip ?_
   refine gk_then (hK19 _ _ ?_)
   refine gc_sr fun K24 hK24 => ?_
   refine gv (qtf Tryz.underlying199 (z := 1) (off := 0)) ?_
   refine gv (qtf Tryz.underlying72 (z := 0) (off := 0)) ?_
   refine gv (qtl Tryz.underlying2 (n := 1)) ?_
   refine gv (qtf Tryz.underlying199 (z := 1) (off := 0)) ?_
   refine gv (qtf Tryz.underlying72 (z := 0) (off := 1)) ?_
   refine gv (qtl Tryz.underlying2 (n := 3)) ?_
   refine gv (qt_build rfl rfl bt_arrowEnds) ?_
   refine gop fun K26 hK26 => ?_
   refine go_alloc (z := (.agg #[.int .i64 0, .int .i64 0])) (cs := [.int .i64 0, .int .i64 0]) rfl rfl rfl (fun w => by kernel_rfl) rfl ?_
   intro B25
   refine hK26 _ _ ?_
   refine gop fun K27 hK27 => ?_
   refine go_storeS (n := 4) rfl rfl rfl rfl (by kernel_rfl) rfl rfl rfl ?_
   refine hK27 _ _ ?_
   refine gnt (hK24 _ _ ?_)
   try simp only [sL]
   refine ga_start _ (fun w M => mem_erase 2 (M)) ?_
   refine gav 0 rfl (qt_move rfl rfl) ?_
   refine gav 1 rfl (qt_move rfl rfl) ?_
   refine gav 2 rfl (qt_move rfl rfl) ?_
   refine gav 3 rfl (qts Tryz.underlying72 (n := 3)) ?_
   refine gav 4 rfl (qtf Tryz.underlying192 (z := 0) (off := 3)) ?_
   refine gav 5 rfl (qt_loadB (n := 0) rfl rfl Tryz.underlying189 rfl rfl rfl) ?_
   refine gav 6 rfl (qtf Tryz.underlying199 (z := 0) (off := 2)) ?_
   refine gav 7 rfl (qtl Tryz.underlying4 (n := 1)) ?_
   refine gav 8 rfl (qtf Tryz.underlying199 (z := 0) (off := 2)) ?_
   refine gav 9 rfl (qtl Tryz.underlying4 (n := 2)) ?_
   refine gao 10 fun K28 hK28 => ?_
   refine go_q rfl rfl (qt_callF rfl rfl ot rfl (fun w M => ht w M.1 (x, y, l) hf (atE es (k : Int)) (atE_mem (by omega)) hc1)) ?_
   refine hK28 _ _ (fun w M => (mem_erase 2 (mem_take 5 M) :)) ?_
   refine gav 11 rfl (qt_build rfl rfl bt_pairOf_arrowEnds_bool) ?_
   refine gav 12 rfl (qt_lookN lab_bool rfl rfl rfl rfl (fun w M => mem_rdN M hN)) ?_
   refine gao 13 fun K29 hK29 => ?_
   refine gov (qti (fun w M => lenA_own1 (n := 2) rfl M)) ?_
   refine hK29 _ _ (fun w M => (mem_erase 2 (mem_take 5 M) :)) ?_
   refine gao 14 fun K30 hK30 => ?_
   refine go_store1 (n := 2) rfl rfl rfl rfl (by kernel_rfl) rfl (by omega) (by omega) ?_
   refine hK30 _ _ (fun w M => (mem_erase 2 (mem_take 5 M) :)) ?_
   refine ga_done (by kernel_rfl) ?_
   refine gk_block ?_
   refine gk_then (hK14 _ _ ?_)
   refine gc_region ?_
   refine gv (qt_add rfl rfl rfl (by omega)) ?_
   refine gm ?_
   refine g_nil ?_
   rw [fillTo_set' (φ := fun j => cellE es th (x, y, l) (atE es (j : Int))) (by omega) (if_pos hc1)]
   refine gk_then (gk_take 3 ?_)
   refine gk_sub ?hs_31 (hKL11 (k + 1) ?hi_31 ?hm_31)
   case hs_31 => repeat first | exact sub_nil | refine sub_cons rfl ?_
   case hi_31 => omega
   case hm_31 => omega
 ·try simp only [sA] at hc0
  refine gc_exit ?_
  refine gk_then_exit ?_
  refine gk_then_exit ?_
  refine gk_block_hit ?_
  refine gk_then (hK9 _ _ ?_)
  refine gc_sr fun K32 hK32 => ?_
  refine gm ?_
  refine gas ?_
  refine gnt (hK32 _ _ ?_)
  refine gc_ret ?_
  refine ret_1 rfl rfl  (fun w M => ?_)
  obtain rfl : k = es.length := by omega
  rw [fillTo_end] at M
  exact ⟨_, rfl, mem_own1 (n := 2) M rfl, M.1⟩
set_option maxHeartbeats 1000000 in
set_option maxRecDepth 100000 in
theorem build_bool (w : World) (n : Int) (va : Value) (es : List (Ent Bool)) (hE : RdE lab_bool w va es) (hnd : es.Nodup) (n0 : 0 ≤ n) (fu : FuncId) (cu : List Value) (u : Nat → Bool) (ou : Opn fu) (hu : ∀ w', Below w.heap.size w w' → ∀ x : Nat, (x : Int) < n → Calls Tryz.prog fu ([Value.int .i64 (x : Int)] ++ cu).toArray w' (RetV w' (Value.bool (u x)))) (ft : FuncId) (ct : List Value) (th : Bool → Bool → Bool) (ot : Opn ft) (ht : ∀ w', Below w.heap.size w w' → ∀ f ∈ es, ∀ g ∈ es, f.2.1 = g.1 → Calls Tryz.prog ft ([Value.bool (f.2.2), Value.bool (g.2.2)] ++ ct).toArray w' (RetV w' (Value.bool (th f.2.2 g.2.2)))) :
  Calls Tryz.prog 170 #[.agg #[.int .i64 n, va, .func (.func fu) #[] cu.toArray, .func (.func ft) #[] ct.toArray]] w (RetCI w (madeE n es u th) (madeEc n es)) := by
 obtain ⟨aa, ac, rfl⟩ := lenV_E hE
 have hel : es.length ≤ 5000000000001 := by obtain ⟨_, _, _, hl, _⟩ := hE; exact hl
 have hrl := fun (f : Ent Bool) => tabTo_len (fun j => cellE es th f (atE es (j : Int))) es.length
 go_enter Tryz.func170, Tryz.ntmps170
 refine gc_enter (N := 80) rfl (look_cons (k := 0) rfl (look_nil _)) ?_
 refine gc_sr fun K1 hK1 => ?_
 refine gop fun K3 hK3 => ?_
 refine go_box rfl rfl rfl rfl rfl ?_
 intro B2
 refine hK3 _ _ ?_
 refine gop fun K5 hK5 => ?_
 refine go_alloc (z := (.agg #[.int .i64 0, .slice none 0 0, .slice none 0 0, .slice none 0 0, .slice none 0 0])) (cs := [.int .i64 0, .slice none 0 0, .slice none 0 0, .slice none 0 0, .slice none 0 0]) rfl rfl rfl (fun w => by kernel_rfl) rfl ?_
 intro B4
 refine hK5 _ _ ?_
 refine gas ?_
 refine gnt (hK1 _ _ ?_)
 refine gc_seq fun K6 hK6 => ?_
 refine gc_sr fun K7 hK7 => ?_
 refine gv (qtf Tryz.underlying192 (z := 0) (off := 0)) ?_
 refine gv (qtl Tryz.underlying2 (n := 0)) ?_
 refine gv (qt_gtr rfl rfl rfl) ?_
 refine g_splitv (.free rfl) rfl rfl (qt_move rfl rfl) (fun hs1_3 => ?_) (fun hs1_3 => ?_)
 ·try simp only [sA] at hs1_3
  refine gsk ?_
  refine gsk ?_
  refine gsk ?_
  refine gsk ?_
  refine gv (qt_pick_t rfl rfl rfl) ?_
  refine gnt (hK7 _ _ ?_)
  refine gc_cond_t rfl ?_
  refine gc_sr fun K8 hK8 => ?_
  refine gv (qt_build rfl rfl bt0_Category) ?_
  refine gop fun K9 hK9 => ?_
  refine go_storeS (n := 1) rfl rfl rfl rfl (by kernel_rfl) rfl rfl rfl ?_
  refine hK9 _ _ ?_
  refine gas ?_
  refine gnt (hK8 _ _ ?_)
  refine gc_ret ?_
  refine gk_then_ret ?_
  refine ret_SI (n := 1) rfl rfl rfl Tryz.underlying29 rfl (by kernel_rfl) rfl (fun w M => ?_)
  have hm := madeE_f (n := n) (es := es) (u := u) (th := th) (by omega)
  rw [hm.1, hm.2]; exact ⟨_, rfl, ownC_zero _ _, M.1⟩
 ·try simp only [sA] at hs1_3
  refine gvh (qtf Tryz.underlying192 (z := 0) (off := 1)) ?_
  refine gvh (qtl Tryz.underlying190 (n := 0)) ?_
  refine gvh (qt_len rfl rfl (lab_ul lab_bool) (fun w M => lenV_E (mem_rdE M hE))) ?_
  refine gvh (qt_gtr rfl rfl rfl) ?_
  refine gv (qt_pick_f rfl rfl rfl) ?_
  refine gnt (hK7 _ _ ?_)
  refine gc_cond rfl (fun hc0 => ?_) (fun hc0 => ?_)
  ·try simp only [sA] at hc0
   refine gc_sr fun K10 hK10 => ?_
   refine gv (qt_build rfl rfl bt0_Category) ?_
   refine gop fun K11 hK11 => ?_
   refine go_storeS (n := 1) rfl rfl rfl rfl (by kernel_rfl) rfl rfl rfl ?_
   refine hK11 _ _ ?_
   refine gas ?_
   refine gnt (hK10 _ _ ?_)
   refine gc_ret ?_
   refine gk_then_ret ?_
   refine ret_SI (n := 1) rfl rfl rfl Tryz.underlying29 rfl (by kernel_rfl) rfl (fun w M => ?_)
   have hm := madeE_f (n := n) (es := es) (u := u) (th := th) (by omega)
   rw [hm.1, hm.2]; exact ⟨_, rfl, ownC_zero _ _, M.1⟩
  ·try simp only [sA] at hc0
   refine gc_skip ?_
   refine gk_then (hK6 _ _ ?_)
   refine gc_sr fun K12 hK12 => ?_
   refine gv (qtf Tryz.underlying192 (z := 0) (off := 0)) ?_
   refine gv (qtl Tryz.underlying2 (n := 0)) ?_
   refine gv (qt_build rfl rfl btp0_Category) ?_
   refine gop fun K14 hK14 => ?_
   refine go_alloc (z := (.agg #[.int .i64 0, .slice none 0 0, .slice none 0 0, .slice none 0 0, .slice none 0 0])) (cs := [.int .i64 0, .slice none 0 0, .slice none 0 0, .slice none 0 0, .slice none 0 0]) rfl rfl rfl (fun w => by kernel_rfl) rfl ?_
   intro B13
   refine hK14 _ _ ?_
   refine gop fun K15 hK15 => ?_
   refine go_storeS (n := 2) rfl rfl rfl rfl (by kernel_rfl) rfl rfl rfl ?_
   refine hK15 _ _ ?_
   refine gnt (hK12 _ _ ?_)
   refine gc_sr fun K16 hK16 => ?_
   refine gv (qtf Tryz.underlying192 (z := 0) (off := 1)) ?_
   refine gv (qtl Tryz.underlying190 (n := 0)) ?_
   refine gop fun K18 hK18 => ?_
   refine go_callN rfl rfl rfl Tryz.func178 rfl (by decide) rfl (fun w M => numbered_bool w _ _ (mem_rdE M hE) (by first | assumption | omega)) ?_
   intro B17
   refine hK18 _ _ ?_
   refine gas ?_
   refine gnt (hK16 _ _ ?_)
   refine gc_seq fun K19 hK19 => ?_
   refine gc_sr fun K20 hK20 => ?_
   refine gv (qtf Tryz.underlying192 (z := 0) (off := 0)) ?_
   refine gv (qtl Tryz.underlying2 (n := 0)) ?_
   refine gm ?_
   refine gnt (hK20 _ _ ?_)
   refine gc_block ?_
   refine gc_nilS ?_
   try simp only [sL]
   refine gc_loopT ([(0, _), (1, _), (2, _), (3, _), (4, _), (5, _), (17, _), (26, _)] : Env) (fun s : Nat × (Option Addr) × Nat => (fun (k : Nat) (a : Option Addr) (q : Nat) => (([(27, .int .i64 (k : Int))] : Env), ([(2, bxI B13 29 [.int .i64 n, .slice none 0 0, .slice none 0 0, .slice a (tabTo (fun x => posE es ((x : Int), (x : Int), u x)) k).length q, .slice none 0 0]), (4, own1I (.slice a (tabTo (fun x => posE es ((x : Int), (x : Int), u x)) k).length q) (tabTo (fun x => posE es ((x : Int), (x : Int), u x)) k))] : List (Nat × Itm)), k ≤ n.toNat, n.toNat - k)) s.1 s.2.1 s.2.2) (0, _, _) (by repeat first | exact sub_nil | refine sub_cons rfl ?_) rfl (Nat.zero_le _) ?_
   rintro ⟨k, a, q⟩ hinv KL21 hKL21
   simp only [sU, sL] at hinv hKL21 ⊢
   have hk := hinv
   have hl3 := tabTo_len (fun x => posE es ((x : Int), (x : Int), u x)) k
   refine gc_sr fun K22 hK22 => ?_
   refine gv (qt_lss rfl rfl rfl) ?_
   refine gnt (hK22 _ _ ?_)
   refine gc_seq fun K23 hK23 => ?_
   refine gc_cond rfl (fun hc1 => ?_) (fun hc1 => ?_)
   ·try simp only [sA] at hc1
    refine gc_skip ?_
    refine gk_then (hK23 _ _ ?_)
    refine gc_seq fun K24 hK24 => ?_
    refine gc_block ?_
    refine gc_sr fun K25 hK25 => ?_
    refine gm ?_
    refine gas ?_
    refine gnt (hK25 _ _ ?_)
    try simp only [sL]
    refine ga_start _ (fun w M => mem_erase 2 (mem_erase 4 (M))) ?_
    refine gav 0 rfl (qtf Tryz.underlying29 (z := 0) (off := 3)) ?_
    refine gav 2 rfl (qt_move rfl rfl) ?_
    refine gav 3 rfl (qt_move rfl rfl) ?_
    refine gav 4 rfl (qt_move rfl rfl) ?_
    refine gav 5 rfl (qt_build rfl rfl bt_arrowEnds) ?_
    refine gav 6 rfl (qtf Tryz.underlying192 (z := 0) (off := 2)) ?_
    refine gav 7 rfl (qt_loadB (n := 0) rfl rfl Tryz.underlying174 rfl rfl rfl) ?_
    refine gav 8 rfl (qt_move rfl rfl) ?_
    refine ga_two 1 9 (by kernel_rfl) rfl rfl (.free rfl) (.free rfl) (fun K26 hK26 => ?_) (fun K26 hK26 => ?_)
    ·refine gov (qtl Tryz.underlying22 (n := 2)) ?_
     refine hK26 _ _ (fun w M => (mem_erase 2 (mem_erase 4 (mem_take 5 M)) :)) ?_
     refine gao 9 fun K28 hK28 => ?_
     refine go_q rfl rfl (qt_callF rfl rfl ou rfl (fun w M => hu w M.1 k (by omega))) ?_
     refine hK28 _ _ (fun w M => (mem_erase 2 (mem_erase 4 (mem_take 5 M)) :)) ?_
     refine gav 10 rfl (qt_build rfl rfl bt_pairOf_arrowEnds_bool) ?_
     refine gav 11 rfl (qt_lookN lab_bool rfl rfl rfl rfl (fun w M => mem_numN (n := 2) M rfl)) ?_
     refine gao 12 fun K30 hK30 => ?_
     refine go_slice1 rfl rfl rfl rfl Tryz.underlying22 ?_
     intro B29
     refine hK30 _ _ (fun w M => (mem_erase 2 (mem_erase 4 (mem_take 5 M)) :)) ?_
     refine gao 13 fun K32 hK32 => ?_
     refine go_append (n := 4) (m := 5) rfl rfl rfl Tryz.underlying22 rfl rfl rfl rfl (by omega) ?_
     intro va31 vc31
     refine hK32 _ _ (fun w M => (mem_erase 2 (mem_erase 4 (mem_take 5 M)) :)) ?_
     refine gav 14 rfl (qtf Tryz.underlying29 (z := 0) (off := 3)) ?_
     refine gao 15 fun K33 hK33 => ?_
     refine go_storeB (n := 2) rfl rfl rfl rfl (by kernel_rfl) rfl rfl rfl (by first | decide | simp) ?_
     refine hK33 _ _ (fun w M => (mem_erase 2 (mem_erase 4 (mem_take 5 M)) :)) ?_
     refine ga_done (by kernel_rfl) ?_
     refine gk_block ?_
     refine gk_then (hK24 _ _ ?_)
     refine gc_region ?_
     refine gv (qt_add rfl rfl rfl (by omega)) ?_
     refine gm ?_
     refine g_nil ?_
     simp only [tabTo_succ]
     refine gk_then (gk_take 5 ?_)
     refine gk_sub ?hs_34 (hKL21 (k + 1, _, _) ?hi_34 ?hm_34)
     case hs_34 => repeat first | exact sub_nil | refine sub_cons rfl ?_
     case hi_34 => omega
     case hm_34 => omega
    ·refine go_q rfl rfl (qt_callF rfl rfl ou rfl (fun w M => hu w M.1 k (by omega))) ?_
     refine hK26 _ _ (fun w M => (mem_erase 2 (mem_erase 4 (mem_take 5 M)) :)) ?_
     refine gav 10 rfl (qt_build rfl rfl bt_pairOf_arrowEnds_bool) ?_
     refine gav 11 rfl (qt_lookN lab_bool rfl rfl rfl rfl (fun w M => mem_numN (n := 2) M rfl)) ?_
     refine ga_two 1 12 (by kernel_rfl) rfl rfl (.free rfl) (.free rfl) (fun K36 hK36 => ?_) (fun K36 hK36 => ?_)
     ·refine gov (qtl Tryz.underlying22 (n := 2)) ?_
      refine hK36 _ _ (fun w M => (mem_erase 2 (mem_erase 4 (mem_take 5 M)) :)) ?_
      refine gao 12 fun K39 hK39 => ?_
      refine go_slice1 rfl rfl rfl rfl Tryz.underlying22 ?_
      intro B38
      refine hK39 _ _ (fun w M => (mem_erase 2 (mem_erase 4 (mem_take 5 M)) :)) ?_
      refine gao 13 fun K41 hK41 => ?_
      refine go_append (n := 4) (m := 5) rfl rfl rfl Tryz.underlying22 rfl rfl rfl rfl (by omega) ?_
      intro va40 vc40
      refine hK41 _ _ (fun w M => (mem_erase 2 (mem_erase 4 (mem_take 5 M)) :)) ?_
      refine gav 14 rfl (qtf Tryz.underlying29 (z := 0) (off := 3)) ?_
      refine gao 15 fun K42 hK42 => ?_
      refine go_storeB (n := 2) rfl rfl rfl rfl (by kernel_rfl) rfl rfl rfl (by first | decide | simp) ?_
      refine hK42 _ _ (fun w M => (mem_erase 2 (mem_erase 4 (mem_take 5 M)) :)) ?_
      refine ga_done (by kernel_rfl) ?_
      refine gk_block ?_
      refine gk_then (hK24 _ _ ?_)
      refine gc_region ?_
      refine gv (qt_add rfl rfl rfl (by omega)) ?_
      refine gm ?_
      refine g_nil ?_
      simp only [tabTo_succ]
      refine gk_then (gk_take 5 ?_)
      refine gk_sub ?hs_43 (hKL21 (k + 1, _, _) ?hi_43 ?hm_43)
      case hs_43 => repeat first | exact sub_nil | refine sub_cons rfl ?_
      case hi_43 => omega
      case hm_43 => omega
     ·refine go_slice1 rfl rfl rfl rfl Tryz.underlying22 ?_
      intro B44
      refine hK36 _ _ (fun w M => (mem_erase 2 (mem_erase 4 (mem_take 5 M)) :)) ?_
      refine gao 1 fun K46 hK46 => ?_
      refine gov (qtl Tryz.underlying22 (n := 2)) ?_
      refine hK46 _ _ (fun w M => (mem_erase 2 (mem_erase 4 (mem_take 5 M)) :)) ?_
      refine gao 13 fun K48 hK48 => ?_
      refine go_append (n := 4) (m := 5) rfl rfl rfl Tryz.underlying22 rfl rfl rfl rfl (by omega) ?_
      intro va47 vc47
      refine hK48 _ _ (fun w M => (mem_erase 2 (mem_erase 4 (mem_take 5 M)) :)) ?_
      refine gav 14 rfl (qtf Tryz.underlying29 (z := 0) (off := 3)) ?_
      refine gao 15 fun K49 hK49 => ?_
      refine go_storeB (n := 2) rfl rfl rfl rfl (by kernel_rfl) rfl rfl rfl (by first | decide | simp) ?_
      refine hK49 _ _ (fun w M => (mem_erase 2 (mem_erase 4 (mem_take 5 M)) :)) ?_
      refine ga_done (by kernel_rfl) ?_
      refine gk_block ?_
      refine gk_then (hK24 _ _ ?_)
      refine gc_region ?_
      refine gv (qt_add rfl rfl rfl (by omega)) ?_
      refine gm ?_
      refine g_nil ?_
      simp only [tabTo_succ]
      refine gk_then (gk_take 5 ?_)
      refine gk_sub ?hs_50 (hKL21 (k + 1, _, _) ?hi_50 ?hm_50)
      case hs_50 => repeat first | exact sub_nil | refine sub_cons rfl ?_
      case hi_50 => omega
      case hm_50 => omega
   ·try simp only [sA] at hc1
    refine gc_exit ?_
    refine gk_then_exit ?_
    refine gk_then_exit ?_
    refine gk_block_hit ?_
    refine gk_then (hK19 _ _ ?_)
    refine gc_seq fun K51 hK51 => ?_
    refine gc_seq fun K52 hK52 => ?_
    obtain rfl : k = n.toNat := by omega
    refine gc_region ?_
    refine gv (qtf Tryz.underlying192 (z := 0) (off := 1)) ?_
    refine gv (qtl Tryz.underlying190 (n := 0)) ?_
    refine gv (qt_len rfl rfl (lab_ul lab_bool) (fun w M => lenV_E (mem_rdE M hE))) ?_
    refine gm ?_
    refine gnt (hK52 _ _ ?_)
    refine gc_block ?_
    refine gc_nilS ?_
    refine gc_nilS ?_
    refine gc_nilU ?_
    try simp only [sL]
    refine gc_loopT ([(0, _), (1, _), (2, _), (3, _), (4, _), (5, _), (17, _), (26, _), (27, _), (28, _), (47, _), (48, _)] : Env) (fun s : Nat × (Option Addr) × Nat × (Option Addr) × Nat × (Option Addr) × Nat × (List Value) => (fun (k : Nat) (a1 : Option Addr) (q1 : Nat) (a2 : Option Addr) (q2 : Nat) (a4 : Option Addr) (q4 : Nat) (us : List Value) => (([(49, .int .i64 (k : Int))] : Env), ([(2, bxI B13 29 [.int .i64 n, .slice a1 (tabTo (fun i => (atE es (i : Int)).1) k).length q1, .slice a2 (tabTo (fun i => (atE es (i : Int)).2.1) k).length q2, .slice a (tabTo (fun x => posE es ((x : Int), (x : Int), u x)) n.toNat).length q, .slice a4 (rowsTo (fun i => rowE es th (atE es (i : Int))) k).length q4]), (5, own1I (.slice a1 (tabTo (fun i => (atE es (i : Int)).1) k).length q1) (tabTo (fun i => (atE es (i : Int)).1) k)), (6, own1I (.slice a2 (tabTo (fun i => (atE es (i : Int)).2.1) k).length q2) (tabTo (fun i => (atE es (i : Int)).2.1) k)), (7, own2U (.slice a4 (rowsTo (fun i => rowE es th (atE es (i : Int))) k).length q4) us (rowsTo (fun i => rowE es th (atE es (i : Int))) k))] : List (Nat × Itm)), k ≤ es.length, es.length - k)) s.1 s.2.1 s.2.2.1 s.2.2.2.1 s.2.2.2.2.1 s.2.2.2.2.2.1 s.2.2.2.2.2.2.1 s.2.2.2.2.2.2.2) (0, _, _, _, _, _, _, _) (by repeat first | exact sub_nil | refine sub_cons rfl ?_) rfl (Nat.zero_le _) ?_
    rintro ⟨k, a1, q1, a2, q2, a4, q4, us⟩ hinv KL53 hKL53
    simp only [sU, sL] at hinv hKL53 ⊢
    have hk := hinv
    have hl1 := tabTo_len (fun i => (atE es (i : Int)).1) k
    have hl2 := tabTo_len (fun i => (atE es (i : Int)).2.1) k
    have hl4 := rowsTo_len (fun i => rowE es th (atE es (i : Int))) k
    refine gc_sr fun K54 hK54 => ?_
    refine gv (qt_lss rfl rfl rfl) ?_
    refine gnt (hK54 _ _ ?_)
    refine gc_seq fun K55 hK55 => ?_
    refine gc_cond rfl (fun hc2 => ?_) (fun hc2 => ?_)
    ·try simp only [sA] at hc2
     refine gc_skip ?_
     refine gk_then (hK55 _ _ ?_)
     refine gc_seq fun K56 hK56 => ?_
     refine gc_block ?_
     refine gc_sr fun K57 hK57 => ?_
     refine gv (qt_indexE lab_bool rfl rfl rfl rfl (fun w M => lenA_E (mem_rdE M hE)) (by omega) (by omega)) ?_
     refine gv (qt_loadE lab_bool rfl rfl rfl (fun w M => mem_rdE M hE) (by omega) (by omega)) ?_
     refine gop fun K59 hK59 => ?_
     refine go_alloc (z := (.agg #[.int .i64 0, .int .i64 0, .bool false])) (cs := [.int .i64 0, .int .i64 0, .bool false]) rfl rfl rfl (fun w => by kernel_rfl) rfl ?_
     intro B58
     refine hK59 _ _ ?_
     refine gop fun K60 hK60 => ?_
     refine go_storeS (n := 8) rfl rfl rfl rfl (by kernel_rfl) rfl rfl rfl ?_
     refine hK60 _ _ ?_
     refine gnt (hK57 _ _ ?_)
     refine gc_sr fun K61 hK61 => ?_
     refine gv (qtf Tryz.underlying29 (z := 0) (off := 1)) ?_
     refine gv (qtl Tryz.underlying22 (n := 2)) ?_
     refine gv (qtf Tryz.underlying199 (z := 1) (off := 0)) ?_
     refine gv (qtf Tryz.underlying72 (z := 0) (off := 0)) ?_
     refine gv (qtl Tryz.underlying2 (n := 8)) ?_
     refine gop fun K63 hK63 => ?_
     refine go_slice1 rfl rfl rfl rfl Tryz.underlying22 ?_
     intro B62
     refine hK63 _ _ ?_
     refine gop fun K65 hK65 => ?_
     refine go_append (n := 5) (m := 9) rfl rfl rfl Tryz.underlying22 rfl rfl rfl rfl (by omega) ?_
     intro va64 vc64
     refine hK65 _ _ ?_
     refine gv (qtf Tryz.underlying29 (z := 0) (off := 1)) ?_
     refine gop fun K66 hK66 => ?_
     refine go_storeB (n := 2) rfl rfl rfl rfl (by kernel_rfl) rfl rfl rfl (by first | decide | simp) ?_
     refine hK66 _ _ ?_
     refine gnt (hK61 _ _ ?_)
     refine gc_sr fun K67 hK67 => ?_
     refine gv (qtf Tryz.underlying29 (z := 0) (off := 2)) ?_
     refine gv (qtl Tryz.underlying22 (n := 2)) ?_
     refine gv (qtf Tryz.underlying199 (z := 1) (off := 0)) ?_
     refine gv (qtf Tryz.underlying72 (z := 0) (off := 1)) ?_
     refine gv (qtl Tryz.underlying2 (n := 8)) ?_
     refine gop fun K69 hK69 => ?_
     refine go_slice1 rfl rfl rfl rfl Tryz.underlying22 ?_
     intro B68
     refine hK69 _ _ ?_
     refine gop fun K71 hK71 => ?_
     refine go_append (n := 6) (m := 10) rfl rfl rfl Tryz.underlying22 rfl rfl rfl rfl (by omega) ?_
     intro va70 vc70
     refine hK71 _ _ ?_
     refine gv (qtf Tryz.underlying29 (z := 0) (off := 2)) ?_
     refine gop fun K72 hK72 => ?_
     refine go_storeB (n := 2) rfl rfl rfl rfl (by kernel_rfl) rfl rfl rfl (by first | decide | simp) ?_
     refine hK72 _ _ ?_
     refine gnt (hK67 _ _ ?_)
     try simp only [sL]
     refine ga_start _ (fun w M => mem_erase 2 (mem_erase 7 (M))) ?_
     refine gav 0 rfl (qtf Tryz.underlying29 (z := 0) (off := 4)) ?_
     refine gav 2 rfl (qts Tryz.underlying192 (n := 0)) ?_
     refine gav 3 rfl (qts Tryz.underlying199 (n := 6)) ?_
     refine gav 4 rfl (qt_move rfl rfl) ?_
     refine ga_two 1 5 (by kernel_rfl) rfl rfl (.free rfl) (.free rfl) (fun K73 hK73 => ?_) (fun K73 hK73 => ?_)
     ·refine gov (qtl Tryz.underlying23 (n := 2)) ?_
      refine hK73 _ _ (fun w M => (mem_erase 2 (mem_erase 7 (mem_take 11 M)) :)) ?_
      refine gao 5 fun K76 hK76 => ?_
      refine go_callL rfl rfl rfl Tryz.func179 rfl (by decide) rfl (fun w M => row_bool w (n) (.slice aa es.length ac) (es) (mem_rdE M hE) (fu) (cu) (ft) (ct) (th) (ot) (fun w' hb => ht w' (M.1.trans (hb.mono M.1.size))) (atE es (k : Int)).1 (atE es (k : Int)).2.1 (atE es (k : Int)).2.2 (atE_mem (k := k) (by omega)) _ (mem_numN (n := 3) M rfl)) ?_
      intro va75 vc75
      refine hK76 _ _ (fun w M => (mem_erase 2 (mem_erase 7 (mem_take 11 M)) :)) ?_
      refine gao 6 fun K78 hK78 => ?_
      refine go_sliceR1 (m := 11) rfl rfl rfl rfl Tryz.underlying23 rfl ?_
      intro B77
      refine hK78 _ _ (fun w M => (mem_erase 2 (mem_erase 7 (mem_take 11 M)) :)) ?_
      refine gao 7 fun K80 hK80 => ?_
      refine go_appendRow (n := 7) (m := 11) (m' := 10) rfl rfl rfl Tryz.underlying23 rfl rfl rfl rfl rfl (by omega) ?_
      intro va79 vc79
      refine hK80 _ _ (fun w M => (mem_erase 2 (mem_erase 7 (mem_take 11 M)) :)) ?_
      refine gav 8 rfl (qtf Tryz.underlying29 (z := 0) (off := 4)) ?_
      refine gao 9 fun K81 hK81 => ?_
      refine go_storeB (n := 2) rfl rfl rfl rfl (by kernel_rfl) rfl rfl rfl (by first | decide | simp) ?_
      refine hK81 _ _ (fun w M => (mem_erase 2 (mem_erase 7 (mem_take 11 M)) :)) ?_
      refine ga_done (by kernel_rfl) ?_
      refine gk_block ?_
      refine gk_then (hK56 _ _ ?_)
      refine gc_region ?_
      refine gv (qt_add rfl rfl rfl (by omega)) ?_
      refine gm ?_
      refine g_nil ?_
      simp only [rowE_eta, tabTo_succ, rowsTo_succ]
      refine gk_then (gk_take 8 ?_)
      refine gk_sub ?hs_82 (hKL53 (k + 1, _, _, _, _, _, _, _) ?hi_82 ?hm_82)
      case hs_82 => repeat first | exact sub_nil | refine sub_cons rfl ?_
      case hi_82 => omega
      case hm_82 => omega
     ·refine go_callL rfl rfl rfl Tryz.func179 rfl (by decide) rfl (fun w M => row_bool w (n) (.slice aa es.length ac) (es) (mem_rdE M hE) (fu) (cu) (ft) (ct) (th) (ot) (fun w' hb => ht w' (M.1.trans (hb.mono M.1.size))) (atE es (k : Int)).1 (atE es (k : Int)).2.1 (atE es (k : Int)).2.2 (atE_mem (k := k) (by omega)) _ (mem_numN (n := 3) M rfl)) ?_
      intro va83 vc83
      refine hK73 _ _ (fun w M => (mem_erase 2 (mem_erase 7 (mem_take 11 M)) :)) ?_
      refine ga_two 1 6 (by kernel_rfl) rfl rfl (.free rfl) (.free rfl) (fun K85 hK85 => ?_) (fun K85 hK85 => ?_)
      ·refine gov (qtl Tryz.underlying23 (n := 2)) ?_
       refine hK85 _ _ (fun w M => (mem_erase 2 (mem_erase 7 (mem_take 11 M)) :)) ?_
       refine gao 6 fun K88 hK88 => ?_
       refine go_sliceR1 (m := 11) rfl rfl rfl rfl Tryz.underlying23 rfl ?_
       intro B87
       refine hK88 _ _ (fun w M => (mem_erase 2 (mem_erase 7 (mem_take 11 M)) :)) ?_
       refine gao 7 fun K90 hK90 => ?_
       refine go_appendRow (n := 7) (m := 11) (m' := 10) rfl rfl rfl Tryz.underlying23 rfl rfl rfl rfl rfl (by omega) ?_
       intro va89 vc89
       refine hK90 _ _ (fun w M => (mem_erase 2 (mem_erase 7 (mem_take 11 M)) :)) ?_
       refine gav 8 rfl (qtf Tryz.underlying29 (z := 0) (off := 4)) ?_
       refine gao 9 fun K91 hK91 => ?_
       refine go_storeB (n := 2) rfl rfl rfl rfl (by kernel_rfl) rfl rfl rfl (by first | decide | simp) ?_
       refine hK91 _ _ (fun w M => (mem_erase 2 (mem_erase 7 (mem_take 11 M)) :)) ?_
       refine ga_done (by kernel_rfl) ?_
       refine gk_block ?_
       refine gk_then (hK56 _ _ ?_)
       refine gc_region ?_
       refine gv (qt_add rfl rfl rfl (by omega)) ?_
       refine gm ?_
       refine g_nil ?_
       simp only [rowE_eta, tabTo_succ, rowsTo_succ]
       refine gk_then (gk_take 8 ?_)
       refine gk_sub ?hs_92 (hKL53 (k + 1, _, _, _, _, _, _, _) ?hi_92 ?hm_92)
       case hs_92 => repeat first | exact sub_nil | refine sub_cons rfl ?_
       case hi_92 => omega
       case hm_92 => omega
      ·refine go_sliceR1 (m := 11) rfl rfl rfl rfl Tryz.underlying23 rfl ?_
       intro B93
       refine hK85 _ _ (fun w M => (mem_erase 2 (mem_erase 7 (mem_take 11 M)) :)) ?_
       refine gao 1 fun K95 hK95 => ?_
       refine gov (qtl Tryz.underlying23 (n := 2)) ?_
       refine hK95 _ _ (fun w M => (mem_erase 2 (mem_erase 7 (mem_take 11 M)) :)) ?_
       refine gao 7 fun K97 hK97 => ?_
       refine go_appendRow (n := 7) (m := 11) (m' := 10) rfl rfl rfl Tryz.underlying23 rfl rfl rfl rfl rfl (by omega) ?_
       intro va96 vc96
       refine hK97 _ _ (fun w M => (mem_erase 2 (mem_erase 7 (mem_take 11 M)) :)) ?_
       refine gav 8 rfl (qtf Tryz.underlying29 (z := 0) (off := 4)) ?_
       refine gao 9 fun K98 hK98 => ?_
       refine go_storeB (n := 2) rfl rfl rfl rfl (by kernel_rfl) rfl rfl rfl (by first | decide | simp) ?_
       refine hK98 _ _ (fun w M => (mem_erase 2 (mem_erase 7 (mem_take 11 M)) :)) ?_
       refine ga_done (by kernel_rfl) ?_
       refine gk_block ?_
       refine gk_then (hK56 _ _ ?_)
       refine gc_region ?_
       refine gv (qt_add rfl rfl rfl (by omega)) ?_
       refine gm ?_
       refine g_nil ?_
       simp only [rowE_eta, tabTo_succ, rowsTo_succ]
       refine gk_then (gk_take 8 ?_)
       refine gk_sub ?hs_99 (hKL53 (k + 1, _, _, _, _, _, _, _) ?hi_99 ?hm_99)
       case hs_99 => repeat first | exact sub_nil | refine sub_cons rfl ?_
       case hi_99 => omega
       case hm_99 => omega
    ·try simp only [sA] at hc2
     refine gc_exit ?_
     refine gk_then_exit ?_
     refine gk_then_exit ?_
     refine gk_block_hit ?_
     refine gk_then (hK51 _ _ ?_)
     refine gc_sr fun K100 hK100 => ?_
     refine gv (qts Tryz.underlying29 (n := 2)) ?_
     refine gop fun K101 hK101 => ?_
     refine go_storeS (n := 1) rfl rfl rfl rfl (by kernel_rfl) rfl rfl rfl ?_
     refine hK101 _ _ ?_
     refine gas ?_
     refine gnt (hK100 _ _ ?_)
     refine gc_ret ?_
     refine ret_SI (n := 1) rfl rfl rfl Tryz.underlying29 rfl (by kernel_rfl) rfl (fun w M => ?_)
     obtain rfl : k = es.length := by omega
     have hm := madeE_t (n := n) (es := es) (u := u) (th := th) (by omega) (by omega)
     rw [hm.1, hm.2]; exact ⟨_, rfl, ownC_star (c := buildE n es u th) (mem_pick (n := 7) (mem_pick (n := 7) (mem_pick (n := 5) (mem_pick (n := 7) (M) rfl) rfl) rfl) rfl).2, M.1⟩
end Go.Proofs.YtpcabkdkdnchaaaGreat
set_option linter.unusedSimpArgs false
set_option linter.unusedVariables false
set_option linter.unusedSectionVars false
namespace Go.Proofs.YtpcabkdkdnchaaaGreat
open Go.RowKit
def BxV (w : World) (B : Nat) (t : TypeId) (v : Value) : Prop := w.heap[B]? = some (.cells v.cells t (0, 0))
theorem bxV_below {w w' : World} {B : Nat} {t : TypeId} {v : Value} (hb : Below w.heap.size w w') (h : BxV w B t v) : BxV w' B t v := by
  unfold BxV at h ⊢
  rw [hb.block B (Array.getElem?_eq_some_iff.1 h).1]; exact h
section
variable {w0 : World} {is : List Itm} {o : Oper} {e : Env} {v : Value}
theorem mem_bxR {w : World} {B : Nat} {t : TypeId} {cs : List Value} (M : Mem w0 w is) (h : BxV w0 B t (.agg cs.toArray)) : Bx w B t cs := bxV_below M.1 h
theorem bxV_of {w : World} {n B : Nat} {t : TypeId} {cs : List Value} (M : Mem w0 w is) (h : is[n]? = some (bxI B t cs)) : BxV w B t (.agg cs.toArray) := mem_bx M h
theorem qt_loadRB {x : Operand} {t tb : TypeId} {B j : Nat} {cs : List Value} {td : TypeDesc} (hb : BxV w0 B tb (.agg cs.toArray)) (hop : o.op = .load t x) (hx : evo e x = some (.pointer (some ⟨B, j, none⟩))) (ht : Tryz.prog.underlying t = some td) (hd : aggT td = false)
    (hv : cs[j]? = some v) : QV w0 is o e v :=
  fun w ac M F => by
    have hx := F _ _ hx
    have hc := bx_cell (mem_bxR M hb) j hv
    simp [execOp, hop, hx, run_load1 ht hd hc]
theorem qt_loadRS {x : Operand} {t tb : TypeId} {B : Nat} {cs : List Value} {td : TypeDesc} (hb : BxV w0 B tb (.agg cs.toArray)) (hop : o.op = .load t x) (hx : evo e x = some (.pointer (some ⟨B, 0, none⟩))) (ht : Tryz.prog.underlying t = some td) (hd : aggT td = true)
    (hs : (Tryz.prog.info? t).map (·.size) = some cs.length) : QV w0 is o e (.agg cs.toArray) :=
  fun w ac M F => by
    have hx := F _ _ hx
    have hc : w.heap[B]? = some (.cells cs.toArray tb (0, 0)) := mem_bxR M hb
    simp [execOp, hop, hx, Instr.loadAt, Instr.sureAddr, run_loadVar_row w B tb t cs.toArray (0, 0) td hc ht (by cases td <;> simp_all [aggT]) (by simpa using hs)]
end
end Go.Proofs.YtpcabkdkdnchaaaGreat
set_option linter.unusedSimpArgs false
set_option linter.unusedVariables false
set_option linter.unusedSectionVars false
namespace Go.Proofs.YtpcabkdkdnchaaaGreat
open Go.RowKit
section
variable {α : Type} [Inhabited α]
def entsTo (φ : Nat → Ent α) (k : Nat) : List (Ent α) := (List.range k).map φ
theorem entsTo_len (φ : Nat → Ent α) (k : Nat) : (entsTo φ k).length = k := by simp [entsTo]
theorem entsTo_succ (φ : Nat → Ent α) (k : Nat) : entsTo φ k ++ [φ k] = entsTo φ (k + 1) := by simp [entsTo, List.range_succ]
theorem entsTo_at (φ : Nat → Ent α) {k j : Nat} (h : j < k) : atE (entsTo φ k) (j : Int) = φ j := by
  rw [atE_eq (by rw [entsTo_len]; exact h)]; simp [entsTo]
theorem entsTo_mem {φ : Nat → Ent α} {k : Nat} {e : Ent α} : e ∈ entsTo φ k ↔ ∃ j, j < k ∧ φ j = e := by simp [entsTo]
theorem entsTo_nodup {φ : Nat → Ent α} {k : Nat} (h : ∀ i j, i < k → j < k → φ i = φ j → i = j) : (entsTo φ k).Nodup := by
  unfold entsTo List.Nodup
  rw [List.pairwise_map]
  refine List.Pairwise.imp_of_mem (fun {a b} ha hb hab he => hab (h a b (List.mem_range.1 ha) (List.mem_range.1 hb) he)) (List.nodup_range (n := k))
variable [DecidableEq α]
theorem idx_nodup {β : Type} [BEq β] [LawfulBEq β] : ∀ (es : List β) (j : Nat) (h : j < es.length), es.Nodup → es.idxOf es[j] = j
  | [], j, h, _ => by simp at h
  | e :: es, 0, h, _ => by simp
  | e :: es, j + 1, h, hn => by
    have hn' := List.nodup_cons.1 hn
    have hj : j < es.length := by simpa using h
    have hne : (e == es[j]) = false := by
      simp only [beq_eq_false_iff_ne, ne_eq]
      intro he
      exact hn'.1 (by rw [he]; exact List.getElem_mem hj)
    simp only [List.getElem_cons_succ, List.idxOf_cons, hne, idx_nodup es j hj hn'.2]
    rfl
theorem posE_at {es : List (Ent α)} (hn : es.Nodup) {j : Nat} (h : j < es.length) {e : Ent α} (he : atE es (j : Int) = e) : posE es e = j := by
  subst he
  have hm := atE_mem h
  unfold posE
  rw [if_pos hm, atE_eq h]
  rw [idx_nodup es j h hn]
theorem posE_to {φ : Nat → Ent α} {k : Nat} (hi : ∀ i j, i < k → j < k → φ i = φ j → i = j) {j : Nat} (h : j < k) {e : Ent α} (he : φ j = e) : posE (entsTo φ k) e = j :=
  posE_at (entsTo_nodup hi) (by rw [entsTo_len]; exact h) (by rw [entsTo_at φ h, he])
theorem posE_int {φ : Nat → Ent α} {k : Nat} (hi : ∀ i j, i < k → j < k → φ i = φ j → i = j) {j : Int} (h0 : 0 ≤ j) (h1 : j < k) {e : Ent α} (he : φ j.toNat = e) : posE (entsTo φ k) e = j := by
  obtain ⟨n, rfl⟩ := Int.eq_ofNat_of_zero_le h0
  exact posE_to hi (by omega) he
theorem buildE_to {n : Int} {φ : Nat → Ent α} {k : Nat} {u : Nat → α} {th : α → α → α} {c : Cat} (ho : c.ob = n) (hs : c.s.length = k) (ht : c.t.length = k) (he : c.e.length = n.toNat) (hm : c.m.length = k) (hr : ∀ i, i < k → (row2 c.m (i : Int)).length = k)
    (h1 : ∀ i, i < k → at0 c.s (i : Int) = (φ i).1) (h2 : ∀ i, i < k → at0 c.t (i : Int) = (φ i).2.1) (h3 : ∀ x, x < n.toNat → at0 c.e (x : Int) = posE (entsTo φ k) ((x : Int), (x : Int), u x))
    (h4 : ∀ i j, i < k → j < k → at0 (row2 c.m (i : Int)) (j : Int) = cellE (entsTo φ k) th (φ i) (φ j)) : buildE n (entsTo φ k) u th = c := by
  have e1 : c.s = tabTo (fun i => (atE (entsTo φ k) (i : Int)).1) k := tabTo_ext hs fun j hj => by rw [h1 j hj, entsTo_at φ hj]
  have e2 : c.t = tabTo (fun i => (atE (entsTo φ k) (i : Int)).2.1) k := tabTo_ext ht fun j hj => by rw [h2 j hj, entsTo_at φ hj]
  have e3 : c.e = tabTo (fun x => posE (entsTo φ k) ((x : Int), (x : Int), u x)) n.toNat := tabTo_ext he fun j hj => h3 j hj
  have e4 : c.m = rowsTo (fun i => rowE (entsTo φ k) th (atE (entsTo φ k) (i : Int))) k := rowsTo_ext hm fun i hi => by
    unfold rowE
    rw [entsTo_len]
    refine tabTo_ext (hr i hi) fun j hj => ?_
    rw [h4 i j hi hj, entsTo_at φ hi, entsTo_at φ hj]
  obtain ⟨ob, s, t, e, m⟩ := c
  simp only at ho e1 e2 e3 e4
  unfold buildE
  rw [entsTo_len, ← e1, ← e2, ← e3, ← e4, ho]
end
theorem retCI_eq {W w' : World} {c c' : Cat} {n n' : Int} {e : Ending} (hc : c = c') (hn : n = n') (h : RetCI W c n e w') : RetCI W c' n' e w' := by subst hc; subst hn; exact h
end Go.Proofs.YtpcabkdkdnchaaaGreat
