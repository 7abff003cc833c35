import Derived.Test.YtpcabkdkdnchaaaGreatZ20
import Derived.Test.YtpcabkdkdnchaaaGreatZ18
import Derived.Test.YtpcabkdkdnchaaaGreatZ6
import Derived.Test.YtpcabkdkdnchaaaGreatZ15
import Derived.Test.YtpcabkdkdnchaaaGreatZ14
set_option linter.unusedSimpArgs false
set_option linter.unusedVariables false
set_option linter.unusedSectionVars false
namespace Go.Proofs.YtpcabkdkdnchaaaGreat
open Go.RowKit
set_option maxHeartbeats 1000000 in
set_option maxRecDepth 100000 in
theorem row_pairV (w : World) (n : Int) (va : Value) (es : List (Ent (Int × Int))) (hE : RdE lab_pair w va es) (uv : Value) (tv : Value) (th : (Int × Int) → (Int × Int) → (Int × Int)) (ht : ∀ w', Below w.heap.size w w' → ∀ f ∈ es, ∀ g ∈ es, f.2.1 = g.1 → CallsV tv [Value.agg #[.int .i64 (f.2.2).1, .int .i64 (f.2.2).2], Value.agg #[.int .i64 (g.2.2).1, .int .i64 (g.2.2).2]] w' (RetV w' (Value.agg #[.int .i64 (th f.2.2 g.2.2).1, .int .i64 (th f.2.2 g.2.2).2]))) (x y : Int) (l : (Int × Int)) (hf : (x, y, l) ∈ es) (NB : Nat) (hN : RdN lab_pair w NB es) :
  Calls Tryz.prog 121 #[.agg #[.int .i64 n, va, uv, tv], .agg #[.int .i64 x, .int .i64 y, .int .i64 (l).1, .int .i64 (l).2], .map (some NB)] w (RetL w (rowE es th (x, y, l))) := by
 obtain ⟨aa, ac, rfl⟩ := lenV_E hE
 have hel : es.length ≤ 4000000000000 := by obtain ⟨_, _, _, hl, _⟩ := hE; exact hl
 go_enter Tryz.func121, Tryz.ntmps121
 refine gc_enter (N := 56) rfl (look_cons (k := 0) rfl (look_cons (k := 1) rfl (look_cons (k := 2) rfl (look_nil _)))) ?_
 refine gc_sr fun K1 hK1 => ?_
 refine gop fun K3 hK3 => ?_
 refine go_box rfl rfl rfl rfl rfl ?_
 intro B2
 refine hK3 _ _ ?_
 refine gop fun K5 hK5 => ?_
 refine go_box rfl rfl rfl rfl rfl ?_
 intro B4
 refine hK5 _ _ ?_
 refine gas ?_
 refine gnt (hK1 _ _ ?_)
 refine gc_sr fun K6 hK6 => ?_
 refine gv (qtf Tryz.underlying115 (z := 0) (off := 1)) ?_
 refine gv (qtl Tryz.underlying113 (n := 0)) ?_
 refine gv (qt_len rfl rfl (lab_ul lab_pair) (fun w M => lenV_E (mem_rdE M hE))) ?_
 refine gop fun K8 hK8 => ?_
 refine go_make1 rfl rfl rfl Tryz.underlying22 rfl rfl (by omega) ?_
 intro B7
 refine hK8 _ _ ?_
 refine gas ?_
 refine gnt (hK6 _ _ ?_)
 refine gc_seq fun K9 hK9 => ?_
 refine gc_sr fun K10 hK10 => ?_
 refine gv (qtf Tryz.underlying115 (z := 0) (off := 1)) ?_
 refine gv (qtl Tryz.underlying113 (n := 0)) ?_
 refine gv (qt_len rfl rfl (lab_ul lab_pair) (fun w M => lenV_E (mem_rdE M hE))) ?_
 refine gm ?_
 refine gnt (hK10 _ _ ?_)
 refine gc_block ?_
 rw [fillTo_zero (fun j => cellE es th (x, y, l) (atE es (j : Int))) es.length]
 try simp only [sL]
 refine gc_loopT ([(0, _), (1, _), (2, _), (3, _), (4, _), (6, _), (7, _), (16, _), (17, _)] : Env) (fun s : Nat => (fun (k : Nat) => (([(18, .int .i64 (k : Int))] : Env), ([(2, own1I (.slice (some ⟨B7, 0, none⟩) es.length es.length) (fillTo (fun j => cellE es th (x, y, l) (atE es (j : Int))) es.length k))] : List (Nat × Itm)), k ≤ es.length, es.length - k)) s) (0) (by repeat first | exact sub_nil | refine sub_cons rfl ?_) rfl (Nat.zero_le _) ?_
 rintro k hinv KL11 hKL11
 simp only [sU, sL] at hinv hKL11 ⊢
 have hk := hinv
 have hfl := fillTo_len (fun j => cellE es th (x, y, l) (atE es (j : Int))) es.length k
 refine gc_sr fun K12 hK12 => ?_
 refine gv (qt_lss rfl rfl rfl) ?_
 refine gnt (hK12 _ _ ?_)
 refine gc_seq fun K13 hK13 => ?_
 refine gc_cond rfl (fun hc0 => ?_) (fun hc0 => ?_)
 ·try simp only [sA] at hc0
  refine gc_skip ?_
  refine gk_then (hK13 _ _ ?_)
  refine gc_seq fun K14 hK14 => ?_
  refine gc_block ?_
  refine gc_sr fun K15 hK15 => ?_
  refine gm ?_
  refine gv (qt_indexE lab_pair rfl rfl rfl rfl (fun w M => lenA_E (mem_rdE M hE)) (by omega) (by omega)) ?_
  refine gv (qt_loadE lab_pair rfl rfl rfl (fun w M => mem_rdE M hE) (by omega) (by omega)) ?_
  refine gop fun K17 hK17 => ?_
  refine go_alloc (z := (.agg #[.int .i64 0, .int .i64 0, .int .i64 0, .int .i64 0])) (cs := [.int .i64 0, .int .i64 0, .int .i64 0, .int .i64 0]) rfl rfl rfl (fun w => by kernel_rfl) rfl ?_
  intro B16
  refine hK17 _ _ ?_
  refine gas ?_
  refine gop fun K18 hK18 => ?_
  refine go_storeS (n := 3) rfl rfl rfl rfl (by kernel_rfl) rfl rfl rfl ?_
  refine hK18 _ _ ?_
  refine gnt (hK15 _ _ ?_)
  refine gc_seq fun K19 hK19 => ?_
  refine gc_sr fun K20 hK20 => ?_
  refine gv (qtf Tryz.underlying144 (z := 1) (off := 0)) ?_
  refine gv (qtf Tryz.underlying72 (z := 0) (off := 1)) ?_
  refine gv (qtl Tryz.underlying2 (n := 1)) ?_
  refine gv (qtf Tryz.underlying144 (z := 1) (off := 0)) ?_
  refine gv (qtf Tryz.underlying72 (z := 0) (off := 0)) ?_
  refine gv (qtl Tryz.underlying2 (n := 3)) ?_
  refine gv (qt_neq rfl rfl rfl) ?_
  refine gnt (hK20 _ _ ?_)
  refine gc_cond rfl (fun hc1 => ?_) (fun hc1 => ?_)
  ·try simp only [sA] at hc1
   refine gc_sr fun K21 hK21 => ?_
   refine gm ?_
   refine gm ?_
   refine gv (qti (fun w M => lenA_own1 (n := 2) rfl M)) ?_
   refine gop fun K22 hK22 => ?_
   refine go_store1 (n := 2) rfl rfl rfl rfl (by kernel_rfl) rfl (by omega) (by omega) ?_
   refine hK22 _ _ ?_
   refine gnt (hK21 _ _ ?_)
   refine gc_exit ?_
   refine gk_then_exit ?_
   refine gk_block_hit ?_
   refine gk_then (hK14 _ _ ?_)
   refine gc_region ?_
   refine gv (qt_add rfl rfl rfl (by omega)) ?_
   refine gm ?_
   refine g_nil ?_
   rw [fillTo_set' (φ := fun j => cellE es th (x, y, l) (atE es (j : Int))) (by omega) (if_neg hc1)]
   refine gk_then (gk_take 3 ?_)
   refine gk_sub ?hs_23 (hKL11 (k + 1) ?hi_23 ?hm_23)
   case hs_23 => repeat first | exact sub_nil | refine sub_cons rfl ?_
   case hi_23 => omega
   case hm_23 => omega
  ·try simp only [sA] at hc1
   refine gc_skip ?_
   refine gk_then (hK19 _ _ ?_)
   refine gc_sr fun K24 hK24 => ?_
   refine gv (qtf Tryz.underlying144 (z := 1) (off := 0)) ?_
   refine gv (qtf Tryz.underlying72 (z := 0) (off := 0)) ?_
   refine gv (qtl Tryz.underlying2 (n := 1)) ?_
   refine gv (qtf Tryz.underlying144 (z := 1) (off := 0)) ?_
   refine gv (qtf Tryz.underlying72 (z := 0) (off := 1)) ?_
   refine gv (qtl Tryz.underlying2 (n := 3)) ?_
   refine gv (qt_build rfl rfl bt_arrowEnds) ?_
   refine gop fun K26 hK26 => ?_
   refine go_alloc (z := (.agg #[.int .i64 0, .int .i64 0])) (cs := [.int .i64 0, .int .i64 0]) rfl rfl rfl (fun w => by kernel_rfl) rfl ?_
   intro B25
   refine hK26 _ _ ?_
   refine gop fun K27 hK27 => ?_
   refine go_storeS (n := 4) rfl rfl rfl rfl (by kernel_rfl) rfl rfl rfl ?_
   refine hK27 _ _ ?_
   refine gnt (hK24 _ _ ?_)
   try simp only [sL]
   refine ga_start _ (fun w M => mem_erase 2 (M)) ?_
   refine gav 0 rfl (qt_move rfl rfl) ?_
   refine gav 1 rfl (qt_move rfl rfl) ?_
   refine gav 2 rfl (qt_move rfl rfl) ?_
   refine gav 3 rfl (qts Tryz.underlying72 (n := 3)) ?_
   refine gav 4 rfl (qtf Tryz.underlying115 (z := 0) (off := 3)) ?_
   refine gav 5 rfl (qtl Tryz.underlying112 (n := 0)) ?_
   refine gav 6 rfl (qtf Tryz.underlying144 (z := 1) (off := 2)) ?_
   refine gav 7 rfl (qt_loadP (n := 1) (z := 2) rfl rfl Tryz.underlying110 rfl (by kernel_rfl) rfl (by first | decide | exact Nat.le_refl _ | simp)) ?_
   refine gav 8 rfl (qtf Tryz.underlying144 (z := 1) (off := 2)) ?_
   refine gav 9 rfl (qt_loadP (n := 2) (z := 2) rfl rfl Tryz.underlying110 rfl (by kernel_rfl) rfl (by first | decide | exact Nat.le_refl _ | simp)) ?_
   refine gao 10 fun K28 hK28 => ?_
   refine go_q rfl rfl (qt_callV rfl rfl rfl (fun w M => ht w M.1 (x, y, l) hf (atE es (k : Int)) (atE_mem (by omega)) hc1)) ?_
   refine hK28 _ _ (fun w M => (mem_erase 2 (mem_take 5 M) :)) ?_
   refine gav 11 rfl (qt_build rfl rfl bt_pairOf_arrowEnds_pairOf_int64_int64) ?_
   refine gav 12 rfl (qt_lookN lab_pair rfl rfl rfl rfl (fun w M => mem_rdN M hN)) ?_
   refine gao 13 fun K29 hK29 => ?_
   refine gov (qti (fun w M => lenA_own1 (n := 2) rfl M)) ?_
   refine hK29 _ _ (fun w M => (mem_erase 2 (mem_take 5 M) :)) ?_
   refine gao 14 fun K30 hK30 => ?_
   refine go_store1 (n := 2) rfl rfl rfl rfl (by kernel_rfl) rfl (by omega) (by omega) ?_
   refine hK30 _ _ (fun w M => (mem_erase 2 (mem_take 5 M) :)) ?_
   refine ga_done (by kernel_rfl) ?_
   refine gk_block ?_
   refine gk_then (hK14 _ _ ?_)
   refine gc_region ?_
   refine gv (qt_add rfl rfl rfl (by omega)) ?_
   refine gm ?_
   refine g_nil ?_
   rw [fillTo_set' (φ := fun j => cellE es th (x, y, l) (atE es (j : Int))) (by omega) (if_pos hc1)]
   refine gk_then (gk_take 3 ?_)
   refine gk_sub ?hs_31 (hKL11 (k + 1) ?hi_31 ?hm_31)
   case hs_31 => repeat first | exact sub_nil | refine sub_cons rfl ?_
   case hi_31 => omega
   case hm_31 => omega
 ·try simp only [sA] at hc0
  refine gc_exit ?_
  refine gk_then_exit ?_
  refine gk_then_exit ?_
  refine gk_block_hit ?_
  refine gk_then (hK9 _ _ ?_)
  refine gc_sr fun K32 hK32 => ?_
  refine gm ?_
  refine gas ?_
  refine gnt (hK32 _ _ ?_)
  refine gc_ret ?_
  refine ret_1 rfl rfl  (fun w M => ?_)
  obtain rfl : k = es.length := by omega
  rw [fillTo_end] at M
  exact ⟨_, rfl, mem_own1 (n := 2) M rfl, M.1⟩
set_option maxHeartbeats 1000000 in
set_option maxRecDepth 100000 in
theorem build_pairV (w : World) (n : Int) (va : Value) (es : List (Ent (Int × Int))) (hE : RdE lab_pair w va es) (hnd : es.Nodup) (n0 : 0 ≤ n) (uv : Value) (u : Nat → (Int × Int)) (hu : ∀ w', Below w.heap.size w w' → ∀ x : Nat, (x : Int) < n → CallsV uv [.int .i64 (x : Int)] w' (RetV w' (Value.agg #[.int .i64 (u x).1, .int .i64 (u x).2]))) (tv : Value) (th : (Int × Int) → (Int × Int) → (Int × Int)) (ht : ∀ w', Below w.heap.size w w' → ∀ f ∈ es, ∀ g ∈ es, f.2.1 = g.1 → CallsV tv [Value.agg #[.int .i64 (f.2.2).1, .int .i64 (f.2.2).2], Value.agg #[.int .i64 (g.2.2).1, .int .i64 (g.2.2).2]] w' (RetV w' (Value.agg #[.int .i64 (th f.2.2 g.2.2).1, .int .i64 (th f.2.2 g.2.2).2]))) :
  Calls Tryz.prog 88 #[.agg #[.int .i64 n, va, uv, tv]] w (RetCI w (madeE n es u th) (madeEc n es)) := by
 obtain ⟨aa, ac, rfl⟩ := lenV_E hE
 have hel : es.length ≤ 4000000000000 := by obtain ⟨_, _, _, hl, _⟩ := hE; exact hl
 have hrl := fun (f : Ent (Int × Int)) => tabTo_len (fun j => cellE es th f (atE es (j : Int))) es.length
 go_enter Tryz.func88, Tryz.ntmps88
 refine gc_enter (N := 80) rfl (look_cons (k := 0) rfl (look_nil _)) ?_
 refine gc_sr fun K1 hK1 => ?_
 refine gop fun K3 hK3 => ?_
 refine go_box rfl rfl rfl rfl rfl ?_
 intro B2
 refine hK3 _ _ ?_
 refine gop fun K5 hK5 => ?_
 refine go_alloc (z := (.agg #[.int .i64 0, .slice none 0 0, .slice none 0 0, .slice none 0 0, .slice none 0 0])) (cs := [.int .i64 0, .slice none 0 0, .slice none 0 0, .slice none 0 0, .slice none 0 0]) rfl rfl rfl (fun w => by kernel_rfl) rfl ?_
 intro B4
 refine hK5 _ _ ?_
 refine gas ?_
 refine gnt (hK1 _ _ ?_)
 refine gc_seq fun K6 hK6 => ?_
 refine gc_sr fun K7 hK7 => ?_
 refine gv (qtf Tryz.underlying115 (z := 0) (off := 0)) ?_
 refine gv (qtl Tryz.underlying2 (n := 0)) ?_
 refine gv (qt_gtr rfl rfl rfl) ?_
 refine g_splitv (.free rfl) rfl rfl (qt_move rfl rfl) (fun hs1_3 => ?_) (fun hs1_3 => ?_)
 ·try simp only [sA] at hs1_3
  refine gsk ?_
  refine gsk ?_
  refine gsk ?_
  refine gsk ?_
  refine gv (qt_pick_t rfl rfl rfl) ?_
  refine gnt (hK7 _ _ ?_)
  refine gc_cond_t rfl ?_
  refine gc_sr fun K8 hK8 => ?_
  refine gv (qt_build rfl rfl bt0_Category) ?_
  refine gop fun K9 hK9 => ?_
  refine go_storeS (n := 1) rfl rfl rfl rfl (by kernel_rfl) rfl rfl rfl ?_
  refine hK9 _ _ ?_
  refine gas ?_
  refine gnt (hK8 _ _ ?_)
  refine gc_ret ?_
  refine gk_then_ret ?_
  refine ret_SI (n := 1) rfl rfl rfl Tryz.underlying29 rfl (by kernel_rfl) rfl (fun w M => ?_)
  have hm := madeE_f (n := n) (es := es) (u := u) (th := th) (by omega)
  rw [hm.1, hm.2]; exact ⟨_, rfl, ownC_zero _ _, M.1⟩
 ·try simp only [sA] at hs1_3
  refine gvh (qtf Tryz.underlying115 (z := 0) (off := 1)) ?_
  refine gvh (qtl Tryz.underlying113 (n := 0)) ?_
  refine gvh (qt_len rfl rfl (lab_ul lab_pair) (fun w M => lenV_E (mem_rdE M hE))) ?_
  refine gvh (qt_gtr rfl rfl rfl) ?_
  refine gv (qt_pick_f rfl rfl rfl) ?_
  refine gnt (hK7 _ _ ?_)
  refine gc_cond rfl (fun hc0 => ?_) (fun hc0 => ?_)
  ·try simp only [sA] at hc0
   refine gc_sr fun K10 hK10 => ?_
   refine gv (qt_build rfl rfl bt0_Category) ?_
   refine gop fun K11 hK11 => ?_
   refine go_storeS (n := 1) rfl rfl rfl rfl (by kernel_rfl) rfl rfl rfl ?_
   refine hK11 _ _ ?_
   refine gas ?_
   refine gnt (hK10 _ _ ?_)
   refine gc_ret ?_
   refine gk_then_ret ?_
   refine ret_SI (n := 1) rfl rfl rfl Tryz.underlying29 rfl (by kernel_rfl) rfl (fun w M => ?_)
   have hm := madeE_f (n := n) (es := es) (u := u) (th := th) (by omega)
   rw [hm.1, hm.2]; exact ⟨_, rfl, ownC_zero _ _, M.1⟩
  ·try simp only [sA] at hc0
   refine gc_skip ?_
   refine gk_then (hK6 _ _ ?_)
   refine gc_sr fun K12 hK12 => ?_
   refine gv (qtf Tryz.underlying115 (z := 0) (off := 0)) ?_
   refine gv (qtl Tryz.underlying2 (n := 0)) ?_
   refine gv (qt_build rfl rfl btp0_Category) ?_
   refine gop fun K14 hK14 => ?_
   refine go_alloc (z := (.agg #[.int .i64 0, .slice none 0 0, .slice none 0 0, .slice none 0 0, .slice none 0 0])) (cs := [.int .i64 0, .slice none 0 0, .slice none 0 0, .slice none 0 0, .slice none 0 0]) rfl rfl rfl (fun w => by kernel_rfl) rfl ?_
   intro B13
   refine hK14 _ _ ?_
   refine gop fun K15 hK15 => ?_
   refine go_storeS (n := 2) rfl rfl rfl rfl (by kernel_rfl) rfl rfl rfl ?_
   refine hK15 _ _ ?_
   refine gnt (hK12 _ _ ?_)
   refine gc_sr fun K16 hK16 => ?_
   refine gv (qtf Tryz.underlying115 (z := 0) (off := 1)) ?_
   refine gv (qtl Tryz.underlying113 (n := 0)) ?_
   refine gop fun K18 hK18 => ?_
   refine go_callN rfl rfl rfl Tryz.func120 rfl (by decide) rfl (fun w M => numbered_pair w _ _ (mem_rdE M hE) (by first | assumption | omega)) ?_
   intro B17
   refine hK18 _ _ ?_
   refine gas ?_
   refine gnt (hK16 _ _ ?_)
   refine gc_seq fun K19 hK19 => ?_
   refine gc_sr fun K20 hK20 => ?_
   refine gv (qtf Tryz.underlying115 (z := 0) (off := 0)) ?_
   refine gv (qtl Tryz.underlying2 (n := 0)) ?_
   refine gm ?_
   refine gnt (hK20 _ _ ?_)
   refine gc_block ?_
   refine gc_nilS ?_
   try simp only [sL]
   refine gc_loopT ([(0, _), (1, _), (2, _), (3, _), (4, _), (5, _), (17, _), (26, _)] : Env) (fun s : Nat × (Option Addr) × Nat => (fun (k : Nat) (a : Option Addr) (q : Nat) => (([(27, .int .i64 (k : Int))] : Env), ([(2, bxI B13 29 [.int .i64 n, .slice none 0 0, .slice none 0 0, .slice a (tabTo (fun x => posE es ((x : Int), (x : Int), u x)) k).length q, .slice none 0 0]), (4, own1I (.slice a (tabTo (fun x => posE es ((x : Int), (x : Int), u x)) k).length q) (tabTo (fun x => posE es ((x : Int), (x : Int), u x)) k))] : List (Nat × Itm)), k ≤ n.toNat, n.toNat - k)) s.1 s.2.1 s.2.2) (0, _, _) (by repeat first | exact sub_nil | refine sub_cons rfl ?_) rfl (Nat.zero_le _) ?_
   rintro ⟨k, a, q⟩ hinv KL21 hKL21
   simp only [sU, sL] at hinv hKL21 ⊢
   have hk := hinv
   have hl3 := tabTo_len (fun x => posE es ((x : Int), (x : Int), u x)) k
   refine gc_sr fun K22 hK22 => ?_
   refine gv (qt_lss rfl rfl rfl) ?_
   refine gnt (hK22 _ _ ?_)
   refine gc_seq fun K23 hK23 => ?_
   refine gc_cond rfl (fun hc1 => ?_) (fun hc1 => ?_)
   ·try simp only [sA] at hc1
    refine gc_skip ?_
    refine gk_then (hK23 _ _ ?_)
    refine gc_seq fun K24 hK24 => ?_
    refine gc_block ?_
    refine gc_sr fun K25 hK25 => ?_
    refine gm ?_
    refine gas ?_
    refine gnt (hK25 _ _ ?_)
    try simp only [sL]
    refine ga_start _ (fun w M => mem_erase 2 (mem_erase 4 (M))) ?_
    refine gav 0 rfl (qtf Tryz.underlying29 (z := 0) (off := 3)) ?_
    refine gav 2 rfl (qt_move rfl rfl) ?_
    refine gav 3 rfl (qt_move rfl rfl) ?_
    refine gav 4 rfl (qt_move rfl rfl) ?_
    refine gav 5 rfl (qt_build rfl rfl bt_arrowEnds) ?_
    refine gav 6 rfl (qtf Tryz.underlying115 (z := 0) (off := 2)) ?_
    refine gav 7 rfl (qtl Tryz.underlying111 (n := 0)) ?_
    refine gav 8 rfl (qt_move rfl rfl) ?_
    refine ga_two 1 9 (by kernel_rfl) rfl rfl (.free rfl) (.free rfl) (fun K26 hK26 => ?_) (fun K26 hK26 => ?_)
    ·refine gov (qtl Tryz.underlying22 (n := 2)) ?_
     refine hK26 _ _ (fun w M => (mem_erase 2 (mem_erase 4 (mem_take 5 M)) :)) ?_
     refine gao 9 fun K28 hK28 => ?_
     refine go_q rfl rfl (qt_callV rfl rfl rfl (fun w M => hu w M.1 k (by omega))) ?_
     refine hK28 _ _ (fun w M => (mem_erase 2 (mem_erase 4 (mem_take 5 M)) :)) ?_
     refine gav 10 rfl (qt_build rfl rfl bt_pairOf_arrowEnds_pairOf_int64_int64) ?_
     refine gav 11 rfl (qt_lookN lab_pair rfl rfl rfl rfl (fun w M => mem_numN (n := 2) M rfl)) ?_
     refine gao 12 fun K30 hK30 => ?_
     refine go_slice1 rfl rfl rfl rfl Tryz.underlying22 ?_
     intro B29
     refine hK30 _ _ (fun w M => (mem_erase 2 (mem_erase 4 (mem_take 5 M)) :)) ?_
     refine gao 13 fun K32 hK32 => ?_
     refine go_append (n := 4) (m := 5) rfl rfl rfl Tryz.underlying22 rfl rfl rfl rfl (by omega) ?_
     intro va31 vc31
     refine hK32 _ _ (fun w M => (mem_erase 2 (mem_erase 4 (mem_take 5 M)) :)) ?_
     refine gav 14 rfl (qtf Tryz.underlying29 (z := 0) (off := 3)) ?_
     refine gao 15 fun K33 hK33 => ?_
     refine go_storeB (n := 2) rfl rfl rfl rfl (by kernel_rfl) rfl rfl rfl (by first | decide | simp) ?_
     refine hK33 _ _ (fun w M => (mem_erase 2 (mem_erase 4 (mem_take 5 M)) :)) ?_
     refine ga_done (by kernel_rfl) ?_
     refine gk_block ?_
     refine gk_then (hK24 _ _ ?_)
     refine gc_region ?_
     refine gv (qt_add rfl rfl rfl (by omega)) ?_
     refine gm ?_
     refine g_nil ?_
     simp only [tabTo_succ]
     refine gk_then (gk_take 5 ?_)
     refine gk_sub ?hs_34 (hKL21 (k + 1, _, _) ?hi_34 ?hm_34)
     case hs_34 => repeat first | exact sub_nil | refine sub_cons rfl ?_
     case hi_34 => omega
     case hm_34 => omega
    ·refine go_q rfl rfl (qt_callV rfl rfl rfl (fun w M => hu w M.1 k (by omega))) ?_
     refine hK26 _ _ (fun w M => (mem_erase 2 (mem_erase 4 (mem_take 5 M)) :)) ?_
     refine gav 10 rfl (qt_build rfl rfl bt_pairOf_arrowEnds_pairOf_int64_int64) ?_
     refine gav 11 rfl (qt_lookN lab_pair rfl rfl rfl rfl (fun w M => mem_numN (n := 2) M rfl)) ?_
     refine ga_two 1 12 (by kernel_rfl) rfl rfl (.free rfl) (.free rfl) (fun K36 hK36 => ?_) (fun K36 hK36 => ?_)
     ·refine gov (qtl Tryz.underlying22 (n := 2)) ?_
      refine hK36 _ _ (fun w M => (mem_erase 2 (mem_erase 4 (mem_take 5 M)) :)) ?_
      refine gao 12 fun K39 hK39 => ?_
      refine go_slice1 rfl rfl rfl rfl Tryz.underlying22 ?_
      intro B38
      refine hK39 _ _ (fun w M => (mem_erase 2 (mem_erase 4 (mem_take 5 M)) :)) ?_
      refine gao 13 fun K41 hK41 => ?_
      refine go_append (n := 4) (m := 5) rfl rfl rfl Tryz.underlying22 rfl rfl rfl rfl (by omega) ?_
      intro va40 vc40
      refine hK41 _ _ (fun w M => (mem_erase 2 (mem_erase 4 (mem_take 5 M)) :)) ?_
      refine gav 14 rfl (qtf Tryz.underlying29 (z := 0) (off := 3)) ?_
      refine gao 15 fun K42 hK42 => ?_
      refine go_storeB (n := 2) rfl rfl rfl rfl (by kernel_rfl) rfl rfl rfl (by first | decide | simp) ?_
      refine hK42 _ _ (fun w M => (mem_erase 2 (mem_erase 4 (mem_take 5 M)) :)) ?_
      refine ga_done (by kernel_rfl) ?_
      refine gk_block ?_
      refine gk_then (hK24 _ _ ?_)
      refine gc_region ?_
      refine gv (qt_add rfl rfl rfl (by omega)) ?_
      refine gm ?_
      refine g_nil ?_
      simp only [tabTo_succ]
      refine gk_then (gk_take 5 ?_)
      refine gk_sub ?hs_43 (hKL21 (k + 1, _, _) ?hi_43 ?hm_43)
      case hs_43 => repeat first | exact sub_nil | refine sub_cons rfl ?_
      case hi_43 => omega
      case hm_43 => omega
     ·refine go_slice1 rfl rfl rfl rfl Tryz.underlying22 ?_
      intro B44
      refine hK36 _ _ (fun w M => (mem_erase 2 (mem_erase 4 (mem_take 5 M)) :)) ?_
      refine gao 1 fun K46 hK46 => ?_
      refine gov (qtl Tryz.underlying22 (n := 2)) ?_
      refine hK46 _ _ (fun w M => (mem_erase 2 (mem_erase 4 (mem_take 5 M)) :)) ?_
      refine gao 13 fun K48 hK48 => ?_
      refine go_append (n := 4) (m := 5) rfl rfl rfl Tryz.underlying22 rfl rfl rfl rfl (by omega) ?_
      intro va47 vc47
      refine hK48 _ _ (fun w M => (mem_erase 2 (mem_erase 4 (mem_take 5 M)) :)) ?_
      refine gav 14 rfl (qtf Tryz.underlying29 (z := 0) (off := 3)) ?_
      refine gao 15 fun K49 hK49 => ?_
      refine go_storeB (n := 2) rfl rfl rfl rfl (by kernel_rfl) rfl rfl rfl (by first | decide | simp) ?_
      refine hK49 _ _ (fun w M => (mem_erase 2 (mem_erase 4 (mem_take 5 M)) :)) ?_
      refine ga_done (by kernel_rfl) ?_
      refine gk_block ?_
      refine gk_then (hK24 _ _ ?_)
      refine gc_region ?_
      refine gv (qt_add rfl rfl rfl (by omega)) ?_
      refine gm ?_
      refine g_nil ?_
      simp only [tabTo_succ]
      refine gk_then (gk_take 5 ?_)
      refine gk_sub ?hs_50 (hKL21 (k + 1, _, _) ?hi_50 ?hm_50)
      case hs_50 => repeat first | exact sub_nil | refine sub_cons rfl ?_
      case hi_50 => omega
      case hm_50 => omega
   ·try simp only [sA] at hc1
    refine gc_exit ?_
    refine gk_then_exit ?_
    refine gk_then_exit ?_
    refine gk_block_hit ?_
    refine gk_then (hK19 _ _ ?_)
    refine gc_seq fun K51 hK51 => ?_
    refine gc_seq fun K52 hK52 => ?_
    obtain rfl : k = n.toNat := by omega
    refine gc_region ?_
    refine gv (qtf Tryz.underlying115 (z := 0) (off := 1)) ?_
    refine gv (qtl Tryz.underlying113 (n := 0)) ?_
    refine gv (qt_len rfl rfl (lab_ul lab_pair) (fun w M => lenV_E (mem_rdE M hE))) ?_
    refine gm ?_
    refine gnt (hK52 _ _ ?_)
    refine gc_block ?_
    refine gc_nilS ?_
    refine gc_nilS ?_
    refine gc_nilU ?_
    try simp only [sL]
    refine gc_loopT ([(0, _), (1, _), (2, _), (3, _), (4, _), (5, _), (17, _), (26, _), (27, _), (28, _), (47, _), (48, _)] : Env) (fun s : Nat × (Option Addr) × Nat × (Option Addr) × Nat × (Option Addr) × Nat × (List Value) => (fun (k : Nat) (a1 : Option Addr) (q1 : Nat) (a2 : Option Addr) (q2 : Nat) (a4 : Option Addr) (q4 : Nat) (us : List Value) => (([(49, .int .i64 (k : Int))] : Env), ([(2, bxI B13 29 [.int .i64 n, .slice a1 (tabTo (fun i => (atE es (i : Int)).1) k).length q1, .slice a2 (tabTo (fun i => (atE es (i : Int)).2.1) k).length q2, .slice a (tabTo (fun x => posE es ((x : Int), (x : Int), u x)) n.toNat).length q, .slice a4 (rowsTo (fun i => rowE es th (atE es (i : Int))) k).length q4]), (5, own1I (.slice a1 (tabTo (fun i => (atE es (i : Int)).1) k).length q1) (tabTo (fun i => (atE es (i : Int)).1) k)), (6, own1I (.slice a2 (tabTo (fun i => (atE es (i : Int)).2.1) k).length q2) (tabTo (fun i => (atE es (i : Int)).2.1) k)), (7, own2U (.slice a4 (rowsTo (fun i => rowE es th (atE es (i : Int))) k).length q4) us (rowsTo (fun i => rowE es th (atE es (i : Int))) k))] : List (Nat × Itm)), k ≤ es.length, es.length - k)) s.1 s.2.1 s.2.2.1 s.2.2.2.1 s.2.2.2.2.1 s.2.2.2.2.2.1 s.2.2.2.2.2.2.1 s.2.2.2.2.2.2.2) (0, _, _, _, _, _, _, _) (by repeat first | exact sub_nil | refine sub_cons rfl ?_) rfl (Nat.zero_le _) ?_
    rintro ⟨k, a1, q1, a2, q2, a4, q4, us⟩ hinv KL53 hKL53
    simp only [sU, sL] at hinv hKL53 ⊢
    have hk := hinv
    have hl1 := tabTo_len (fun i => (atE es (i : Int)).1) k
    have hl2 := tabTo_len (fun i => (atE es (i : Int)).2.1) k
    have hl4 := rowsTo_len (fun i => rowE es th (atE es (i : Int))) k
    refine gc_sr fun K54 hK54 => ?_
    refine gv (qt_lss rfl rfl rfl) ?_
    refine gnt (hK54 _ _ ?_)
    refine gc_seq fun K55 hK55 => ?_
    refine gc_cond rfl (fun hc2 => ?_) (fun hc2 => ?_)
    ·try simp only [sA] at hc2
     refine gc_skip ?_
     refine gk_then (hK55 _ _ ?_)
     refine gc_seq fun K56 hK56 => ?_
     refine gc_block ?_
     refine gc_sr fun K57 hK57 => ?_
     refine gv (qt_indexE lab_pair rfl rfl rfl rfl (fun w M => lenA_E (mem_rdE M hE)) (by omega) (by omega)) ?_
     refine gv (qt_loadE lab_pair rfl rfl rfl (fun w M => mem_rdE M hE) (by omega) (by omega)) ?_
     refine gop fun K59 hK59 => ?_
     refine go_alloc (z := (.agg #[.int .i64 0, .int .i64 0, .int .i64 0, .int .i64 0])) (cs := [.int .i64 0, .int .i64 0, .int .i64 0, .int .i64 0]) rfl rfl rfl (fun w => by kernel_rfl) rfl ?_
     intro B58
     refine hK59 _ _ ?_
     refine gop fun K60 hK60 => ?_
     refine go_storeS (n := 8) rfl rfl rfl rfl (by kernel_rfl) rfl rfl rfl ?_
     refine hK60 _ _ ?_
     refine gnt (hK57 _ _ ?_)
     refine gc_sr fun K61 hK61 => ?_
     refine gv (qtf Tryz.underlying29 (z := 0) (off := 1)) ?_
     refine gv (qtl Tryz.underlying22 (n := 2)) ?_
     refine gv (qtf Tryz.underlying144 (z := 1) (off := 0)) ?_
     refine gv (qtf Tryz.underlying72 (z := 0) (off := 0)) ?_
     refine gv (qtl Tryz.underlying2 (n := 8)) ?_
     refine gop fun K63 hK63 => ?_
     refine go_slice1 rfl rfl rfl rfl Tryz.underlying22 ?_
     intro B62
     refine hK63 _ _ ?_
     refine gop fun K65 hK65 => ?_
     refine go_append (n := 5) (m := 9) rfl rfl rfl Tryz.underlying22 rfl rfl rfl rfl (by omega) ?_
     intro va64 vc64
     refine hK65 _ _ ?_
     refine gv (qtf Tryz.underlying29 (z := 0) (off := 1)) ?_
     refine gop fun K66 hK66 => ?_
     refine go_storeB (n := 2) rfl rfl rfl rfl (by kernel_rfl) rfl rfl rfl (by first | decide | simp) ?_
     refine hK66 _ _ ?_
     refine gnt (hK61 _ _ ?_)
     refine gc_sr fun K67 hK67 => ?_
     refine gv (qtf Tryz.underlying29 (z := 0) (off := 2)) ?_
     refine gv (qtl Tryz.underlying22 (n := 2)) ?_
     refine gv (qtf Tryz.underlying144 (z := 1) (off := 0)) ?_
     refine gv (qtf Tryz.underlying72 (z := 0) (off := 1)) ?_
     refine gv (qtl Tryz.underlying2 (n := 8)) ?_
     refine gop fun K69 hK69 => ?_
     refine go_slice1 rfl rfl rfl rfl Tryz.underlying22 ?_
     intro B68
     refine hK69 _ _ ?_
     refine gop fun K71 hK71 => ?_
     refine go_append (n := 6) (m := 10) rfl rfl rfl Tryz.underlying22 rfl rfl rfl rfl (by omega) ?_
     intro va70 vc70
     refine hK71 _ _ ?_
     refine gv (qtf Tryz.underlying29 (z := 0) (off := 2)) ?_
     refine gop fun K72 hK72 => ?_
     refine go_storeB (n := 2) rfl rfl rfl rfl (by kernel_rfl) rfl rfl rfl (by first | decide | simp) ?_
     refine hK72 _ _ ?_
     refine gnt (hK67 _ _ ?_)
     try simp only [sL]
     refine ga_start _ (fun w M => mem_erase 2 (mem_erase 7 (M))) ?_
     refine gav 0 rfl (qtf Tryz.underlying29 (z := 0) (off := 4)) ?_
     refine gav 2 rfl (qts Tryz.underlying115 (n := 0)) ?_
     refine gav 3 rfl (qts Tryz.underlying144 (n := 6)) ?_
     refine gav 4 rfl (qt_move rfl rfl) ?_
     refine ga_two 1 5 (by kernel_rfl) rfl rfl (.free rfl) (.free rfl) (fun K73 hK73 => ?_) (fun K73 hK73 => ?_)
     ·refine gov (qtl Tryz.underlying23 (n := 2)) ?_
      refine hK73 _ _ (fun w M => (mem_erase 2 (mem_erase 7 (mem_take 11 M)) :)) ?_
      refine gao 5 fun K76 hK76 => ?_
      refine go_callL rfl rfl rfl Tryz.func121 rfl (by decide) rfl (fun w M => row_pairV w (n) (.slice aa es.length ac) (es) (mem_rdE M hE) (uv) (tv) (th) (fun w' hb => ht w' (M.1.trans (hb.mono M.1.size))) (atE es (k : Int)).1 (atE es (k : Int)).2.1 (atE es (k : Int)).2.2 (atE_mem (k := k) (by omega)) _ (mem_numN (n := 3) M rfl)) ?_
      intro va75 vc75
      refine hK76 _ _ (fun w M => (mem_erase 2 (mem_erase 7 (mem_take 11 M)) :)) ?_
      refine gao 6 fun K78 hK78 => ?_
      refine go_sliceR1 (m := 11) rfl rfl rfl rfl Tryz.underlying23 rfl ?_
      intro B77
      refine hK78 _ _ (fun w M => (mem_erase 2 (mem_erase 7 (mem_take 11 M)) :)) ?_
      refine gao 7 fun K80 hK80 => ?_
      refine go_appendRow (n := 7) (m := 11) (m' := 10) rfl rfl rfl Tryz.underlying23 rfl rfl rfl rfl rfl (by omega) ?_
      intro va79 vc79
      refine hK80 _ _ (fun w M => (mem_erase 2 (mem_erase 7 (mem_take 11 M)) :)) ?_
      refine gav 8 rfl (qtf Tryz.underlying29 (z := 0) (off := 4)) ?_
      refine gao 9 fun K81 hK81 => ?_
      refine go_storeB (n := 2) rfl rfl rfl rfl (by kernel_rfl) rfl rfl rfl (by first | decide | simp) ?_
      refine hK81 _ _ (fun w M => (mem_erase 2 (mem_erase 7 (mem_take 11 M)) :)) ?_
      refine ga_done (by kernel_rfl) ?_
      refine gk_block ?_
      refine gk_then (hK56 _ _ ?_)
      refine gc_region ?_
      refine gv (qt_add rfl rfl rfl (by omega)) ?_
      refine gm ?_
      refine g_nil ?_
      simp only [rowE_eta, tabTo_succ, rowsTo_succ]
      refine gk_then (gk_take 8 ?_)
      refine gk_sub ?hs_82 (hKL53 (k + 1, _, _, _, _, _, _, _) ?hi_82 ?hm_82)
      case hs_82 => repeat first | exact sub_nil | refine sub_cons rfl ?_
      case hi_82 => omega
      case hm_82 => omega
     ·refine go_callL rfl rfl rfl Tryz.func121 rfl (by decide) rfl (fun w M => row_pairV w (n) (.slice aa es.length ac) (es) (mem_rdE M hE) (uv) (tv) (th) (fun w' hb => ht w' (M.1.trans (hb.mono M.1.size))) (atE es (k : Int)).1 (atE es (k : Int)).2.1 (atE es (k : Int)).2.2 (atE_mem (k := k) (by omega)) _ (mem_numN (n := 3) M rfl)) ?_
      intro va83 vc83
      refine hK73 _ _ (fun w M => (mem_erase 2 (mem_erase 7 (mem_take 11 M)) :)) ?_
      refine ga_two 1 6 (by kernel_rfl) rfl rfl (.free rfl) (.free rfl) (fun K85 hK85 => ?_) (fun K85 hK85 => ?_)
      ·refine gov (qtl Tryz.underlying23 (n := 2)) ?_
       refine hK85 _ _ (fun w M => (mem_erase 2 (mem_erase 7 (mem_take 11 M)) :)) ?_
       refine gao 6 fun K88 hK88 => ?_
       refine go_sliceR1 (m := 11) rfl rfl rfl rfl Tryz.underlying23 rfl ?_
       intro B87
       refine hK88 _ _ (fun w M => (mem_erase 2 (mem_erase 7 (mem_take 11 M)) :)) ?_
       refine gao 7 fun K90 hK90 => ?_
       refine go_appendRow (n := 7) (m := 11) (m' := 10) rfl rfl rfl Tryz.underlying23 rfl rfl rfl rfl rfl (by omega) ?_
       intro va89 vc89
       refine hK90 _ _ (fun w M => (mem_erase 2 (mem_erase 7 (mem_take 11 M)) :)) ?_
       refine gav 8 rfl (qtf Tryz.underlying29 (z := 0) (off := 4)) ?_
       refine gao 9 fun K91 hK91 => ?_
       refine go_storeB (n := 2) rfl rfl rfl rfl (by kernel_rfl) rfl rfl rfl (by first | decide | simp) ?_
       refine hK91 _ _ (fun w M => (mem_erase 2 (mem_erase 7 (mem_take 11 M)) :)) ?_
       refine ga_done (by kernel_rfl) ?_
       refine gk_block ?_
       refine gk_then (hK56 _ _ ?_)
       refine gc_region ?_
       refine gv (qt_add rfl rfl rfl (by omega)) ?_
       refine gm ?_
       refine g_nil ?_
       simp only [rowE_eta, tabTo_succ, rowsTo_succ]
       refine gk_then (gk_take 8 ?_)
       refine gk_sub ?hs_92 (hKL53 (k + 1, _, _, _, _, _, _, _) ?hi_92 ?hm_92)
       case hs_92 => repeat first | exact sub_nil | refine sub_cons rfl ?_
       case hi_92 => omega
       case hm_92 => omega
      ·refine go_sliceR1 (m := 11) rfl rfl rfl rfl Tryz.underlying23 rfl ?_
       intro B93
       refine hK85 _ _ (fun w M => (mem_erase 2 (mem_erase 7 (mem_take 11 M)) :)) ?_
       refine gao 1 fun K95 hK95 => ?_
       refine gov (qtl Tryz.underlying23 (n := 2)) ?_
       refine hK95 _ _ (fun w M => (mem_erase 2 (mem_erase 7 (mem_take 11 M)) :)) ?_
       refine gao 7 fun K97 hK97 => ?_
       refine go_appendRow (n := 7) (m := 11) (m' := 10) rfl rfl rfl Tryz.underlying23 rfl rfl rfl rfl rfl (by omega) ?_
       intro va96 vc96
       refine hK97 _ _ (fun w M => (mem_erase 2 (mem_erase 7 (mem_take 11 M)) :)) ?_
       refine gav 8 rfl (qtf Tryz.underlying29 (z := 0) (off := 4)) ?_
       refine gao 9 fun K98 hK98 => ?_
       refine go_storeB (n := 2) rfl rfl rfl rfl (by kernel_rfl) rfl rfl rfl (by first | decide | simp) ?_
       refine hK98 _ _ (fun w M => (mem_erase 2 (mem_erase 7 (mem_take 11 M)) :)) ?_
       refine ga_done (by kernel_rfl) ?_
       refine gk_block ?_
       refine gk_then (hK56 _ _ ?_)
       refine gc_region ?_
       refine gv (qt_add rfl rfl rfl (by omega)) ?_
       refine gm ?_
       refine g_nil ?_
       simp only [rowE_eta, tabTo_succ, rowsTo_succ]
       refine gk_then (gk_take 8 ?_)
       refine gk_sub ?hs_99 (hKL53 (k + 1, _, _, _, _, _, _, _) ?hi_99 ?hm_99)
       case hs_99 => repeat first | exact sub_nil | refine sub_cons rfl ?_
       case hi_99 => omega
       case hm_99 => omega
    ·try simp only [sA] at hc2
     refine gc_exit ?_
     refine gk_then_exit ?_
     refine gk_then_exit ?_
     refine gk_block_hit ?_
     refine gk_then (hK51 _ _ ?_)
     refine gc_sr fun K100 hK100 => ?_
     refine gv (qts Tryz.underlying29 (n := 2)) ?_
     refine gop fun K101 hK101 => ?_
     refine go_storeS (n := 1) rfl rfl rfl rfl (by kernel_rfl) rfl rfl rfl ?_
     refine hK101 _ _ ?_
     refine gas ?_
     refine gnt (hK100 _ _ ?_)
     refine gc_ret ?_
     refine ret_SI (n := 1) rfl rfl rfl Tryz.underlying29 rfl (by kernel_rfl) rfl (fun w M => ?_)
     obtain rfl : k = es.length := by omega
     have hm := madeE_t (n := n) (es := es) (u := u) (th := th) (by omega) (by omega)
     rw [hm.1, hm.2]; exact ⟨_, rfl, ownC_star (c := buildE n es u th) (mem_pick (n := 7) (mem_pick (n := 7) (mem_pick (n := 5) (mem_pick (n := 7) (M) rfl) rfl) rfl) rfl).2, M.1⟩
end Go.Proofs.YtpcabkdkdnchaaaGreat
set_option linter.unusedSimpArgs false
set_option linter.unusedVariables false
set_option linter.unusedSectionVars false
namespace Go.Proofs.YtpcabkdkdnchaaaGreat
open Go.RowKit
noncomputable def twoErr (c d : Cat) : Int := if fIsCategory c = true ∧ fIsCategory d = true then 0 else 1
theorem twoErr_f {c d : Cat} (h : ¬ (fIsCategory c = true ∧ fIsCategory d = true)) : twoErr c d = 1 := if_neg h
theorem twoErr_t {c d : Cat} (h : fIsCategory c = true) (h' : fIsCategory d = true) : twoErr c d = 0 := if_pos ⟨h, h'⟩
theorem twoErr_0 {c d : Cat} (h : twoErr c d = 0) : fIsCategory c = true ∧ fIsCategory d = true := by
 by_cases hh : fIsCategory c = true ∧ fIsCategory d = true
 ·exact hh
 ·rw [twoErr_f hh] at h; omega
theorem twoErr_n {c d : Cat} (h : ¬ twoErr c d = 0) : ¬ (fIsCategory c = true ∧ fIsCategory d = true) ∧ twoErr c d = 1 := by
 by_cases hh : fIsCategory c = true ∧ fIsCategory d = true
 ·exact absurd (twoErr_t hh.1 hh.2) h
 ·exact ⟨hh, twoErr_f hh⟩
noncomputable def twoD (c d : Cat) : Cat := if fIsCategory c = true then catCat d else cat0
theorem two_c {c d : Cat} (h : twoErr c d = 0) : catCat c = c ∧ twoD c d = d := by
 have h1 := twoErr_0 h
 exact ⟨if_pos h1.1, (if_pos h1.1).trans (if_pos h1.2)⟩
set_option maxHeartbeats 1000000 in
set_option maxRecDepth 100000 in
theorem readCatZ_f (w : World) (v : Value) (c : Cat) (h : RdC w v c) (hI : fIsCategory c = false) :
  Calls Tryz.prog 123 #[v] w (ZeroC w 1) := by
 have h0 := h
 obtain ⟨va, vb, vc, vd, ve, vf, vg, vh, rfl, h1, h2, h3, h4, _⟩ := h.lists
 go_enter Tryz.func123, Tryz.ntmps123
 refine gc_enter (N := 10) rfl (look_cons (k := 0) rfl (look_nil _)) ?_
 refine gc_sr fun K1 hK1 => ?_
 refine gop fun K3 hK3 => ?_
 refine go_box rfl rfl rfl rfl rfl ?_
 intro B2
 refine hK3 _ _ ?_
 refine gop fun K5 hK5 => ?_
 refine go_alloc (z := (.agg #[.int .i64 0, .slice none 0 0, .slice none 0 0, .slice none 0 0, .slice none 0 0])) (cs := [.int .i64 0, .slice none 0 0, .slice none 0 0, .slice none 0 0, .slice none 0 0]) rfl rfl rfl (fun w => by kernel_rfl) rfl ?_
 intro B4
 refine hK5 _ _ ?_
 refine gas ?_
 refine gnt (hK1 _ _ ?_)
 refine gc_seq fun K6 hK6 => ?_
 refine gc_sr fun K7 hK7 => ?_
 refine gv (qts Tryz.underlying29 (n := 0)) ?_
 refine g_q (.free rfl) rfl rfl (qt_call rfl Tryz.func149 rfl (by decide) rfl (fun w M => impl_IsCategory w _ _ (mem_rdC M h0))) ?_
 refine gv (qt_not rfl rfl) ?_
 refine gnt (hK7 _ _ ?_)
 refine gc_cond rfl (fun hc0 => ?_) (fun hc0 => ?_)
 ·try simp only [sA] at hc0
  refine gc_sr fun K8 hK8 => ?_
  refine gv (qt_build rfl rfl bt0_Category) ?_
  refine gop fun K9 hK9 => ?_
  refine go_storeS (n := 1) rfl rfl rfl rfl (by kernel_rfl) rfl rfl rfl ?_
  refine hK9 _ _ ?_
  refine gas ?_
  refine gnt (hK8 _ _ ?_)
  refine gc_ret ?_
  refine gk_then_ret ?_
  refine ret_SI (n := 1) rfl rfl rfl Tryz.underlying29 rfl (by kernel_rfl) rfl (fun w M => ?_)
  exact ⟨rfl, M.1⟩
 ·try simp only [sA] at hc0
  rw [hI] at hc0; cases hc0
set_option maxHeartbeats 1000000 in
set_option maxRecDepth 100000 in
theorem readBothC_any (w : World) (v : Value) (c : Cat) (h : RdC w v c) (u : Value) (d : Cat) (e : RdC w u d) (g : Value) (gf : ∀ w', Below w.heap.size w w' → ∀ v c, RdC w' v c → fIsCategory c = false → CallsV g [v] w' (ZeroC w' 1)) (gt : ∀ w', Below w.heap.size w w' → ∀ v c, RdC w' v c → fIsCategory c = true → CallsV g [v] w' (RetCI w' c 0)) :
  Calls Tryz.prog 128 #[v, u, g] w (RetCCI w (catCat c) (twoD c d) (twoErr c d)) := by
 have h0 := h
 obtain ⟨va, vb, vc, vd, ve, vf, vg, vh, rfl, h1, h2, h3, h4, _⟩ := h.lists
 have e0 := e
 obtain ⟨ua, ub, uc, ud, ue, uf, ug, uh, rfl, e1, e2, e3, e4, _⟩ := e.lists
 go_enter Tryz.func128, Tryz.ntmps128
 refine gc_enter (N := 32) rfl (look_cons (k := 0) rfl (look_cons (k := 1) rfl (look_cons (k := 2) rfl (look_nil _)))) ?_
 refine gc_sr fun K1 hK1 => ?_
 refine gop fun K3 hK3 => ?_
 refine go_box rfl rfl rfl rfl rfl ?_
 intro B2
 refine hK3 _ _ ?_
 refine gop fun K5 hK5 => ?_
 refine go_box rfl rfl rfl rfl rfl ?_
 intro B4
 refine hK5 _ _ ?_
 refine gop fun K7 hK7 => ?_
 refine go_alloc (z := (.agg #[.int .i64 0, .slice none 0 0, .slice none 0 0, .slice none 0 0, .slice none 0 0])) (cs := [.int .i64 0, .slice none 0 0, .slice none 0 0, .slice none 0 0, .slice none 0 0]) rfl rfl rfl (fun w => by kernel_rfl) rfl ?_
 intro B6
 refine hK7 _ _ ?_
 refine gop fun K9 hK9 => ?_
 refine go_alloc (z := (.agg #[.int .i64 0, .slice none 0 0, .slice none 0 0, .slice none 0 0, .slice none 0 0])) (cs := [.int .i64 0, .slice none 0 0, .slice none 0 0, .slice none 0 0, .slice none 0 0]) rfl rfl rfl (fun w => by kernel_rfl) rfl ?_
 intro B8
 refine hK9 _ _ ?_
 refine gas ?_
 refine gnt (hK1 _ _ ?_)
 refine gc_seq fun K10 hK10 => ?_
 rcases ((Bool.eq_false_or_eq_true (fIsCategory c))) with hk0 | hk1
 ·skip
  have hC := hk0
  refine gc_region ?_
  refine gm ?_
  refine gv (qts Tryz.underlying29 (n := 0)) ?_
  refine gop fun K12 hK12 => ?_
  refine go_callVCI rfl rfl rfl rfl rfl (fun w M => gt w M.1 _ _ (mem_rdC M h0) hk0) ?_
  intro ca11 cb11 cc11 cd11 ce11 cf11 cg11 ch11 cu11
  refine hK12 _ _ ?_
  refine gm ?_
  refine gv (qt_extract rfl rfl rfl) ?_
  refine gv (qt_extract rfl rfl rfl) ?_
  refine gop fun K14 hK14 => ?_
  refine go_alloc (z := (.agg #[.int .i64 0, .slice none 0 0, .slice none 0 0, .slice none 0 0, .slice none 0 0])) (cs := [.int .i64 0, .slice none 0 0, .slice none 0 0, .slice none 0 0, .slice none 0 0]) rfl rfl rfl (fun w => by kernel_rfl) rfl ?_
  intro B13
  refine hK14 _ _ ?_
  refine gop fun K15 hK15 => ?_
  refine go_storeS (n := 8) rfl rfl rfl rfl (by kernel_rfl) rfl rfl rfl ?_
  refine hK15 _ _ ?_
  refine gas ?_
  refine gnt (hK10 _ _ ?_)
  refine gc_seq fun K16 hK16 => ?_
  refine gc_sr fun K17 hK17 => ?_
  refine gm ?_
  refine gv (qt_neq_f rfl rfl rfl (by decide)) ?_
  refine gnt (hK17 _ _ ?_)
  refine gc_cond_f rfl ?_
  refine gc_skip ?_
  refine gk_then (hK16 _ _ ?_)
  refine gc_seq fun K18 hK18 => ?_
  rcases ((Bool.eq_false_or_eq_true (fIsCategory d))) with hk0 | hk1
  ·skip
   have hD := hk0
   refine gc_region ?_
   refine gm ?_
   refine gv (qts Tryz.underlying29 (n := 1)) ?_
   refine gop fun K20 hK20 => ?_
   refine go_callVCI rfl rfl rfl rfl rfl (fun w M => gt w M.1 _ _ (mem_rdC M e0) hk0) ?_
   intro ca19 cb19 cc19 cd19 ce19 cf19 cg19 ch19 cu19
   refine hK20 _ _ ?_
   refine gm ?_
   refine gv (qt_extract rfl rfl rfl) ?_
   refine gv (qt_extract rfl rfl rfl) ?_
   refine gop fun K22 hK22 => ?_
   refine go_alloc (z := (.agg #[.int .i64 0, .slice none 0 0, .slice none 0 0, .slice none 0 0, .slice none 0 0])) (cs := [.int .i64 0, .slice none 0 0, .slice none 0 0, .slice none 0 0, .slice none 0 0]) rfl rfl rfl (fun w => by kernel_rfl) rfl ?_
   intro B21
   refine hK22 _ _ ?_
   refine gop fun K23 hK23 => ?_
   refine go_storeS (n := 13) rfl rfl rfl rfl (by kernel_rfl) rfl rfl rfl ?_
   refine hK23 _ _ ?_
   refine gas ?_
   refine gnt (hK18 _ _ ?_)
   refine gc_seq fun K24 hK24 => ?_
   try simp only [sL]
   refine ga_start _ (fun w M => mem_erase 2 (mem_erase 3 (M))) ?_
   refine gav 0 rfl (qts Tryz.underlying29 (n := 6)) ?_
   refine gav 1 rfl (qts Tryz.underlying29 (n := 11)) ?_
   refine gav 2 rfl (qt_move rfl rfl) ?_
   refine gao 3 fun K25 hK25 => ?_
   refine go_storeS (n := 2) rfl rfl rfl rfl (by kernel_rfl) rfl rfl rfl ?_
   refine hK25 _ _ (fun w M => (mem_erase 2 (mem_erase 3 (mem_take 14 M)) :)) ?_
   refine gao 4 fun K26 hK26 => ?_
   refine go_storeS (n := 3) rfl rfl rfl rfl (by kernel_rfl) rfl rfl rfl ?_
   refine hK26 _ _ (fun w M => (mem_erase 2 (mem_erase 3 (mem_take 14 M)) :)) ?_
   refine gav 5 rfl (qt_assign rfl rfl) ?_
   refine ga_done (by kernel_rfl) ?_
   refine gk_then (hK24 _ _ ?_)
   refine gc_ret ?_
   refine ret_SSI (n := 2) (n' := 3) rfl rfl rfl rfl Tryz.underlying29 rfl (by kernel_rfl) rfl Tryz.underlying29 rfl (by kernel_rfl) rfl (fun w M => ?_)
   rw [twoErr_t hC hD, (two_c (twoErr_t hC hD)).1, (two_c (twoErr_t hC hD)).2]; exact retCCI_star (mem_pick (n := 11) (mem_pick (n := 11) (mem_pick (n := 11) (mem_pick (n := 11) (mem_pick (n := 12) (mem_pick (n := 12) (mem_pick (n := 12) (mem_pick (n := 12) (M) rfl) rfl) rfl) rfl) rfl) rfl) rfl) rfl).2 M.1
  ·skip
   have hD := hk1
   refine gc_region ?_
   refine gm ?_
   refine gv (qts Tryz.underlying29 (n := 1)) ?_
   refine g_q (.free rfl) rfl rfl (qt_callV rfl rfl rfl (fun w M => gf w M.1 _ _ (mem_rdC M e0) hk1)) ?_
   refine gm ?_
   refine gv (qt_extract rfl rfl rfl) ?_
   refine gv (qt_extract rfl rfl rfl) ?_
   refine gop fun K28 hK28 => ?_
   refine go_alloc (z := (.agg #[.int .i64 0, .slice none 0 0, .slice none 0 0, .slice none 0 0, .slice none 0 0])) (cs := [.int .i64 0, .slice none 0 0, .slice none 0 0, .slice none 0 0, .slice none 0 0]) rfl rfl rfl (fun w => by kernel_rfl) rfl ?_
   intro B27
   refine hK28 _ _ ?_
   refine gop fun K29 hK29 => ?_
   refine go_storeS (n := 9) rfl rfl rfl rfl (by kernel_rfl) rfl rfl rfl ?_
   refine hK29 _ _ ?_
   refine gas ?_
   refine gnt (hK18 _ _ ?_)
   refine gc_seq fun K30 hK30 => ?_
   try simp only [sL]
   refine ga_start _ (fun w M => mem_erase 2 (mem_erase 3 (M))) ?_
   refine gav 0 rfl (qts Tryz.underlying29 (n := 6)) ?_
   refine gav 1 rfl (qts Tryz.underlying29 (n := 7)) ?_
   refine gav 2 rfl (qt_move rfl rfl) ?_
   refine gao 3 fun K31 hK31 => ?_
   refine go_storeS (n := 2) rfl rfl rfl rfl (by kernel_rfl) rfl rfl rfl ?_
   refine hK31 _ _ (fun w M => (mem_erase 2 (mem_erase 3 (mem_take 10 M)) :)) ?_
   refine gao 4 fun K32 hK32 => ?_
   refine go_storeS (n := 3) rfl rfl rfl rfl (by kernel_rfl) rfl rfl rfl ?_
   refine hK32 _ _ (fun w M => (mem_erase 2 (mem_erase 3 (mem_take 10 M)) :)) ?_
   refine gav 5 rfl (qt_assign rfl rfl) ?_
   refine ga_done (by kernel_rfl) ?_
   refine gk_then (hK30 _ _ ?_)
   refine gc_ret ?_
   refine ret_SSI (n := 2) (n' := 3) rfl rfl rfl rfl Tryz.underlying29 rfl (by kernel_rfl) rfl Tryz.underlying29 rfl (by kernel_rfl) rfl (fun w M => ?_)
   rw [twoErr_f (fun hh => by rw [hD] at hh; cases hh.2), show catCat c = c from if_pos hC, show twoD c d = cat0 from (if_pos hC).trans (if_neg (by rw [hD]; decide))]; exact retCCI_half (mem_pick (n := 7) (mem_pick (n := 7) (mem_pick (n := 7) (mem_pick (n := 7) (M) rfl) rfl) rfl) rfl)
 ·skip
  have hC := hk1
  refine gc_region ?_
  refine gm ?_
  refine gv (qts Tryz.underlying29 (n := 0)) ?_
  refine g_q (.free rfl) rfl rfl (qt_callV rfl rfl rfl (fun w M => gf w M.1 _ _ (mem_rdC M h0) hk1)) ?_
  refine gm ?_
  refine gv (qt_extract rfl rfl rfl) ?_
  refine gv (qt_extract rfl rfl rfl) ?_
  refine gop fun K34 hK34 => ?_
  refine go_alloc (z := (.agg #[.int .i64 0, .slice none 0 0, .slice none 0 0, .slice none 0 0, .slice none 0 0])) (cs := [.int .i64 0, .slice none 0 0, .slice none 0 0, .slice none 0 0, .slice none 0 0]) rfl rfl rfl (fun w => by kernel_rfl) rfl ?_
  intro B33
  refine hK34 _ _ ?_
  refine gop fun K35 hK35 => ?_
  refine go_storeS (n := 4) rfl rfl rfl rfl (by kernel_rfl) rfl rfl rfl ?_
  refine hK35 _ _ ?_
  refine gas ?_
  refine gnt (hK10 _ _ ?_)
  refine gc_seq fun K36 hK36 => ?_
  refine gc_sr fun K37 hK37 => ?_
  refine gm ?_
  refine gv (qt_neq_t rfl rfl rfl (by decide)) ?_
  refine gnt (hK37 _ _ ?_)
  refine gc_cond_t rfl ?_
  refine gc_seq fun K38 hK38 => ?_
  try simp only [sL]
  refine ga_start _ (fun w M => mem_erase 2 (mem_erase 3 (M))) ?_
  refine gav 0 rfl (qts Tryz.underlying29 (n := 2)) ?_
  refine gav 1 rfl (qts Tryz.underlying29 (n := 2)) ?_
  refine gav 2 rfl (qt_move rfl rfl) ?_
  refine gao 3 fun K39 hK39 => ?_
  refine go_storeS (n := 2) rfl rfl rfl rfl (by kernel_rfl) rfl rfl rfl ?_
  refine hK39 _ _ (fun w M => (mem_erase 2 (mem_erase 3 (mem_take 5 M)) :)) ?_
  refine gao 4 fun K40 hK40 => ?_
  refine go_storeS (n := 3) rfl rfl rfl rfl (by kernel_rfl) rfl rfl rfl ?_
  refine hK40 _ _ (fun w M => (mem_erase 2 (mem_erase 3 (mem_take 5 M)) :)) ?_
  refine gav 5 rfl (qt_assign rfl rfl) ?_
  refine ga_done (by kernel_rfl) ?_
  refine gk_then (hK38 _ _ ?_)
  refine gc_ret ?_
  refine gk_then_ret ?_
  refine ret_SSI (n := 2) (n' := 3) rfl rfl rfl rfl Tryz.underlying29 rfl (by kernel_rfl) rfl Tryz.underlying29 rfl (by kernel_rfl) rfl (fun w M => ?_)
  rw [twoErr_f (fun hh => by rw [hC] at hh; cases hh.1), show catCat c = cat0 from if_neg (by rw [hC]; decide), show twoD c d = cat0 from if_neg (by rw [hC]; decide)]; exact retCCI_zero M.1
set_option maxHeartbeats 1000000 in
set_option maxRecDepth 100000 in
theorem readTwo_any (w : World) (v : Value) (c : Cat) (h : RdC w v c) (u : Value) (d : Cat) (e : RdC w u d) :
  Calls Tryz.prog 98 #[v, u] w (RetCCI w (catCat c) (twoD c d) (twoErr c d)) := by
 have h0 := h
 obtain ⟨va, vb, vc, vd, ve, vf, vg, vh, rfl, h1, h2, h3, h4, _⟩ := h.lists
 have e0 := e
 obtain ⟨ua, ub, uc, ud, ue, uf, ug, uh, rfl, e1, e2, e3, e4, _⟩ := e.lists
 go_enter Tryz.func98, Tryz.ntmps98
 refine gc_enter (N := 13) rfl (look_cons (k := 0) rfl (look_cons (k := 1) rfl (look_nil _))) ?_
 refine gc_sr fun K1 hK1 => ?_
 refine gop fun K3 hK3 => ?_
 refine go_box rfl rfl rfl rfl rfl ?_
 intro B2
 refine hK3 _ _ ?_
 refine gop fun K5 hK5 => ?_
 refine go_box rfl rfl rfl rfl rfl ?_
 intro B4
 refine hK5 _ _ ?_
 refine gop fun K7 hK7 => ?_
 refine go_alloc (z := (.agg #[.int .i64 0, .slice none 0 0, .slice none 0 0, .slice none 0 0, .slice none 0 0])) (cs := [.int .i64 0, .slice none 0 0, .slice none 0 0, .slice none 0 0, .slice none 0 0]) rfl rfl rfl (fun w => by kernel_rfl) rfl ?_
 intro B6
 refine hK7 _ _ ?_
 refine gop fun K9 hK9 => ?_
 refine go_alloc (z := (.agg #[.int .i64 0, .slice none 0 0, .slice none 0 0, .slice none 0 0, .slice none 0 0])) (cs := [.int .i64 0, .slice none 0 0, .slice none 0 0, .slice none 0 0, .slice none 0 0]) rfl rfl rfl (fun w => by kernel_rfl) rfl ?_
 intro B8
 refine hK9 _ _ ?_
 refine gas ?_
 refine gnt (hK1 _ _ ?_)
 refine gc_sr fun K10 hK10 => ?_
 refine gv (qts Tryz.underlying29 (n := 0)) ?_
 refine gv (qts Tryz.underlying29 (n := 1)) ?_
 refine gop fun K12 hK12 => ?_
 refine go_callCCI rfl rfl rfl Tryz.func128 rfl (by decide) rfl (fun w M => readBothC_any w _ _ (mem_rdC M h0) _ _ (mem_rdC M e0) (_) (fun w' hb v c h hI => callsV_f (bnd := []) (vs := [_]) (caps := []) Tryz.func123 rfl (by decide) (readCatZ_f w' v c h hI)) (fun w' hb v c h hI => callsV_f (bnd := []) (vs := [_]) (caps := []) Tryz.func123 rfl (by decide) (readCategory_t w' v c h hI))) ?_
 intro ca11 cb11 cc11 cd11 ce11 cf11 cg11 ch11 cu11 da11 db11 dc11 dd11 de11 df11 dg11 dh11 du11
 refine hK12 _ _ ?_
 refine gv (qt_extract rfl rfl rfl) ?_
 refine gv (qt_extract rfl rfl rfl) ?_
 refine gv (qt_extract rfl rfl rfl) ?_
 refine gop fun K13 hK13 => ?_
 refine go_storeS (n := 2) rfl rfl rfl rfl (by kernel_rfl) rfl rfl rfl ?_
 refine hK13 _ _ ?_
 refine gop fun K14 hK14 => ?_
 refine go_storeS (n := 3) rfl rfl rfl rfl (by kernel_rfl) rfl rfl rfl ?_
 refine hK14 _ _ ?_
 refine gas ?_
 refine gnt (hK10 _ _ ?_)
 refine gc_ret ?_
 refine ret_SSI (n := 2) (n' := 3) rfl rfl rfl rfl Tryz.underlying29 rfl (by kernel_rfl) rfl Tryz.underlying29 rfl (by kernel_rfl) rfl (fun w M => ?_)
 exact retCCI_star (mem_pick (n := 11) (mem_pick (n := 11) (mem_pick (n := 11) (mem_pick (n := 11) (mem_pick (n := 11) (mem_pick (n := 11) (mem_pick (n := 11) (mem_pick (n := 11) (M) rfl) rfl) rfl) rfl) rfl) rfl) rfl) rfl).2 M.1
end Go.Proofs.YtpcabkdkdnchaaaGreat
