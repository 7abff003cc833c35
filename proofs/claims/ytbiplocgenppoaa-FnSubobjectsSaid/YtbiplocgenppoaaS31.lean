import Derived.Test.YtbiplocgenppoaaS4
import Derived.Test.YtbiplocgenppoaaS29
import Derived.Test.YtbiplocgenppoaaS30
set_option maxHeartbeats 8000000
set_option maxRecDepth 100000
set_option linter.unusedSimpArgs false
set_option linter.unusedVariables false
set_option linter.unusedSectionVars false
namespace Go.Proofs.Ytbiplocgenppoaa
open _root_.Go.Proofs.Try
open Go.RowKit
def DrawP (c : Cat) : Prop := -1 ≤ c.ob ∧ c.ob ≤ 9 ∧ c.s.length ≤ 41 ∧ c.t.length ≤ 41 ∧ c.e.length ≤ 41 ∧ c.m.length ≤ 41
theorem draw_of {c : Cat} (hS : ShapeP c) : DrawP c := by
 have h1 := hS.ob0; have h2 := hS.ob8; have h3 := hS.n40; have h4 := hS.el; have h5 := hS.tl; have h6 := hS.ml
 exact ⟨by omega, by omega, by omega, by omega, by omega, by omega⟩
theorem specBend_any (w0 w : World) (ca : Option Addr) (cl cc g : Nat) (F : List Itm) (hI : InB w0 (.slice ca cl cc)) (c : Cat) (x1 x2 x3 x4 : Option Addr) (k1 k2 k3 k4 : Nat) (hF : ∀ w S, Star F w S → RdC w (.agg #[.int .i64 c.ob, .slice x1 c.s.length k1, .slice x2 c.t.length k2, .slice x3 c.e.length k3, .slice x4 c.m.length k4]) c) (hS : ShapeP c) (M : Mem w0 w [srcI ca cl cc g, tailI F]) :
  Calls Try.prog 62 #[.pointer (some ⟨g, 0, none⟩), .agg #[.int .i64 c.ob, .slice x1 c.s.length k1, .slice x2 c.t.length k2, .slice x3 c.e.length k3, .slice x4 c.m.length k4]] w (RetMH w0 (srcI ca cl cc g) F DrawP) := by
 have hn40 := hS.n40; have htl := hS.tl; have hel := hS.el; have hob0 := hS.ob0; have hob8 := hS.ob8; have hml := hS.ml
 go_enter func62, Try.ntmps62
 refine gc_enterM M (N := 122) rfl (look_cons (k := 0) rfl (look_cons (k := 1) rfl (look_nil _))) ?_
 clear M
 refine gc_sr fun K1 hK1 => ?_
 refine gop fun K3 hK3 => ?_
 refine go_box rfl rfl rfl rfl rfl ?_
 intro B2
 refine hK3 _ _ ?_
 refine gop fun K5 hK5 => ?_
 refine galC ?_
 intro B4
 refine hK5 _ _ ?_
 refine gnt (hK1 _ _ ?_)
 refine gc_sr fun K6 hK6 => ?_
 refine gv (qts underlying27 (n := 2)) ?_
 refine gop fun K8 hK8 => ?_
 refine go_callC rfl rfl rfl func86 rfl (by decide) rfl (fun w M => specOwnC_any w _ _ (tail_get (n := 1) hF M rfl)) ?_
 intro ca7 cb7 cc7 cd7 ce7 cf7 cg7 ch7 cu7
 refine hK8 _ _ ?_
 refine gop fun K9 hK9 => ?_
 refine gss 2 ?_
 refine hK9 _ _ ?_
 refine gnt (hK6 _ _ ?_)
 refine gc_sr fun K10 hK10 => ?_
 refine gv (qtf underlying27 (z := 0) (off := 1)) ?_
 refine gv (qtl underlying24 (n := 2)) ?_
 refine gv (qln (fun w M => lenV_own1 (n := 4) rfl M)) ?_
 refine gv (qtf underlying27 (z := 0) (off := 2)) ?_
 refine gv (qtl underlying24 (n := 2)) ?_
 refine gv (qln (fun w M => lenV_own1 (n := 5) rfl M)) ?_
 refine gv (qtf underlying27 (z := 0) (off := 4)) ?_
 refine gv (qtl underlying25 (n := 2)) ?_
 refine gv (qt_len rfl rfl ulE2 (fun w M => lenV_U (n := 7) rfl M)) ?_
 refine gv (qt_min3 rfl rfl rfl rfl) ?_
 refine gas ?_
 refine gnt (hK10 _ _ ?_)
 refine gc_sr fun K11 hK11 => ?_
 refine gm ?_
 refine gm ?_
 refine gop fun K13 hK13 => ?_
 refine go_srcNext (n := 0) rfl rfl rfl func51 rfl (by decide) rfl hI rfl (by omega) ?_
 intro r12 hs12
 refine hK13 _ _ ?_
 refine gas ?_
 refine gnt (hK11 _ _ ?_)
 refine gc_seq fun K14 hK14 => ?_
 refine gc_sr fun K15 hK15 => ?_
 refine gm ?_
 refine gop fun K17 hK17 => ?_
 refine go_srcNext (n := 0) rfl rfl rfl func51 rfl (by decide) rfl hI rfl (by omega) ?_
 intro r16 hs16
 refine hK17 _ _ ?_
 refine gnt (hK15 _ _ ?_)
 refine gc_block ?_
 refine gc_sr fun K18 hK18 => ?_
 refine gv (qt_eql rfl rfl rfl) ?_
 refine gas ?_
 refine gnt (hK18 _ _ ?_)
 refine gc_cond rfl (fun hc0 => ?_) (fun hc0 => ?_)
 ·try simp only [sA] at hc0
  refine gc_region ?_
  refine gm ?_
  refine gv (qtf underlying27 (z := 0) (off := 0)) ?_
  refine gv (qtl underlying2 (n := 2)) ?_
  refine gv (qt_add rfl rfl rfl (by omega)) ?_
  refine gop fun K20 hK20 => ?_
  refine go_slice3I rfl rfl rfl rfl rfl rfl underlying24 ?_
  intro B19
  refine hK20 _ _ ?_
  refine gop fun K22 hK22 => ?_
  refine go_srcPick (n := 0) (m := 8) rfl rfl rfl func52 rfl (by decide) rfl hI rfl rfl (by decide) (by simp) ?_
  intro r21 hs21; simp only [List.mem_cons, List.not_mem_nil, or_false] at hs21
  refine hK22 _ _ ?_
  refine gv (qtf underlying27 (z := 0) (off := 0)) ?_
  refine gop fun K23 hK23 => ?_
  refine go_storeB (n := 2) rfl rfl rfl rfl (by kernel_rfl) rfl rfl rfl (by first | decide | simp) ?_
  refine hK23 _ _ ?_
  refine g_nil ?_
  refine gk_block ?_
  refine gk_then (hK14 _ _ ?_)
  refine gc_sr fun K24 hK24 => ?_
  refine gv (qts underlying27 (n := 2)) ?_
  refine gop fun K25 hK25 => ?_
  refine gss 3 ?_
  refine hK25 _ _ ?_
  refine gnt (hK24 _ _ ?_)
  refine gc_ret ?_
  refine ret_S (n := 3) rfl rfl underlying27 rfl (by kernel_rfl) rfl (fun w M => ?_)
  first | exact ⟨⟨_, _, _, _, _⟩, _, (by refine ⟨?_, ?_, ?_, ?_, ?_, ?_⟩ <;> (dsimp only; (try simp only [List.length_append, List.length_set, List.length_cons, List.length_nil]); omega)), rfl, mem_packH [_, _] (mem_take 6 (mem_pick (n := 5) (mem_pick (n := 5) (mem_pick (n := 7) (mem_pick (n := 7) (mem_pick (n := 7) (mem_pick (n := 7) (M) rfl) rfl) rfl) rfl) rfl) rfl))⟩ | exact ⟨⟨_, _, _, _, _⟩, _, (by refine ⟨?_, ?_, ?_, ?_, ?_, ?_⟩ <;> (dsimp only; (try simp only [List.length_append, List.length_set, List.length_cons, List.length_nil]); omega)), rfl, mem_packT [_, _] (mem_take 6 (mem_pick (n := 5) (mem_pick (n := 5) (mem_pick (n := 7) (mem_pick (n := 7) (mem_pick (n := 7) (mem_pick (n := 7) (M) rfl) rfl) rfl) rfl) rfl) rfl))⟩
 try simp only [sA] at hc0
 refine gc_sr fun K26 hK26 => ?_
 refine gv (qt_eql rfl rfl rfl) ?_
 refine gas ?_
 refine gnt (hK26 _ _ ?_)
 refine gc_cond rfl (fun hc1 => ?_) (fun hc1 => ?_)
 ·try simp only [sA] at hc1
  refine gc_region ?_
  refine gv (qtf underlying27 (z := 0) (off := 1)) ?_
  refine gv (qtl underlying24 (n := 2)) ?_
  refine gop fun K28 hK28 => ?_
  refine go_slice1 rfl rfl rfl rfl underlying24 ?_
  intro B27
  refine hK28 _ _ ?_
  refine gop fun K30 hK30 => ?_
  refine go_append (n := 4) (m := 8) rfl rfl rfl underlying24 rfl rfl rfl rfl (by omega) ?_
  intro va29 vc29
  refine hK30 _ _ ?_
  refine gv (qtf underlying27 (z := 0) (off := 1)) ?_
  refine gop fun K31 hK31 => ?_
  refine go_storeB (n := 2) rfl rfl rfl rfl (by kernel_rfl) rfl rfl rfl (by first | decide | simp) ?_
  refine hK31 _ _ ?_
  refine g_nil ?_
  refine gk_block ?_
  refine gk_then (hK14 _ _ ?_)
  refine gc_sr fun K32 hK32 => ?_
  refine gv (qts underlying27 (n := 2)) ?_
  refine gop fun K33 hK33 => ?_
  refine gss 3 ?_
  refine hK33 _ _ ?_
  refine gnt (hK32 _ _ ?_)
  refine gc_ret ?_
  refine ret_S (n := 3) rfl rfl underlying27 rfl (by kernel_rfl) rfl (fun w M => ?_)
  first | exact ⟨⟨_, _, _, _, _⟩, _, (by refine ⟨?_, ?_, ?_, ?_, ?_, ?_⟩ <;> (dsimp only; (try simp only [List.length_append, List.length_set, List.length_cons, List.length_nil]); omega)), rfl, mem_packH [_, _] (mem_take 6 (mem_pick (n := 5) (mem_pick (n := 5) (mem_pick (n := 7) (mem_pick (n := 7) (mem_pick (n := 7) (mem_pick (n := 7) (M) rfl) rfl) rfl) rfl) rfl) rfl))⟩ | exact ⟨⟨_, _, _, _, _⟩, _, (by refine ⟨?_, ?_, ?_, ?_, ?_, ?_⟩ <;> (dsimp only; (try simp only [List.length_append, List.length_set, List.length_cons, List.length_nil]); omega)), rfl, mem_packT [_, _] (mem_take 6 (mem_pick (n := 5) (mem_pick (n := 5) (mem_pick (n := 7) (mem_pick (n := 7) (mem_pick (n := 7) (mem_pick (n := 7) (M) rfl) rfl) rfl) rfl) rfl) rfl))⟩
 try simp only [sA] at hc1
 refine gc_sr fun K34 hK34 => ?_
 refine gv (qt_eql rfl rfl rfl) ?_
 refine gas ?_
 refine gnt (hK34 _ _ ?_)
 refine gc_cond rfl (fun hc2 => ?_) (fun hc2 => ?_)
 ·try simp only [sA] at hc2
  refine gc_sr fun K35 hK35 => ?_
  refine gv (qtf underlying27 (z := 0) (off := 3)) ?_
  refine gv (qtl underlying24 (n := 2)) ?_
  refine gv (qln (fun w M => lenV_own1 (n := 6) rfl M)) ?_
  refine gv (qt_gtr rfl rfl rfl) ?_
  refine gnt (hK35 _ _ ?_)
  refine gc_cond rfl (fun hc3 => ?_) (fun hc3 => ?_)
  ·try simp only [sA] at hc3
   try simp only [sL]
   refine ga_start _ (fun w M => mem_erase 0 (mem_erase 6 (M))) ?_
   refine gav 0 rfl (qtf underlying27 (z := 0) (off := 3)) ?_
   refine gav 1 rfl (qtl underlying24 (n := 1)) ?_
   refine gav 2 rfl (qt_move rfl rfl) ?_
   refine gav 3 rfl (qt_move rfl rfl) ?_
   refine gav 4 rfl (qt_add rfl rfl rfl (by omega)) ?_
   refine gao 5 fun K37 hK37 => ?_
   refine go_srcNext (n := 0) rfl rfl rfl func51 rfl (by decide) rfl hI rfl (by omega) ?_
   intro r36 hs36
   refine hK37 _ _ (fun w M => (ms0 0 6 8 M :)) ?_
   refine gao 6 fun K38 hK38 => ?_
   refine gov (qti (fun w M => lenA_own1 (n := 6) rfl M)) ?_
   refine hK38 _ _ (fun w M => (ms0 0 6 8 M :)) ?_
   refine gao 7 fun K39 hK39 => ?_
   refine go_store1 (n := 6) rfl rfl rfl rfl (by kernel_rfl) rfl (by omega) (by omega) ?_
   refine hK39 _ _ (fun w M => (ms0 0 6 8 M :)) ?_
   refine ga_done (by kernel_rfl) ?_
   refine gk_block ?_
   refine gk_then (hK14 _ _ ?_)
   refine gc_sr fun K40 hK40 => ?_
   refine gv (qts underlying27 (n := 2)) ?_
   refine gop fun K41 hK41 => ?_
   refine gss 3 ?_
   refine hK41 _ _ ?_
   refine gnt (hK40 _ _ ?_)
   refine gc_ret ?_
   refine ret_S (n := 3) rfl rfl underlying27 rfl (by kernel_rfl) rfl (fun w M => ?_)
   first | exact ⟨⟨_, _, _, _, _⟩, _, (by refine ⟨?_, ?_, ?_, ?_, ?_, ?_⟩ <;> (dsimp only; (try simp only [List.length_append, List.length_set, List.length_cons, List.length_nil]); omega)), rfl, mem_packH [_, _] (mem_take 6 (mem_pick (n := 5) (mem_pick (n := 5) (mem_pick (n := 7) (mem_pick (n := 7) (mem_pick (n := 7) (mem_pick (n := 7) (M) rfl) rfl) rfl) rfl) rfl) rfl))⟩ | exact ⟨⟨_, _, _, _, _⟩, _, (by refine ⟨?_, ?_, ?_, ?_, ?_, ?_⟩ <;> (dsimp only; (try simp only [List.length_append, List.length_set, List.length_cons, List.length_nil]); omega)), rfl, mem_packT [_, _] (mem_take 6 (mem_pick (n := 5) (mem_pick (n := 5) (mem_pick (n := 7) (mem_pick (n := 7) (mem_pick (n := 7) (mem_pick (n := 7) (M) rfl) rfl) rfl) rfl) rfl) rfl))⟩
  try simp only [sA] at hc3
  refine gc_skip ?_
  refine gk_block ?_
  refine gk_then (hK14 _ _ ?_)
  refine gc_sr fun K42 hK42 => ?_
  refine gv (qts underlying27 (n := 2)) ?_
  refine gop fun K43 hK43 => ?_
  refine gss 3 ?_
  refine hK43 _ _ ?_
  refine gnt (hK42 _ _ ?_)
  refine gc_ret ?_
  refine ret_S (n := 3) rfl rfl underlying27 rfl (by kernel_rfl) rfl (fun w M => ?_)
  first | exact ⟨⟨_, _, _, _, _⟩, _, (by refine ⟨?_, ?_, ?_, ?_, ?_, ?_⟩ <;> (dsimp only; (try simp only [List.length_append, List.length_set, List.length_cons, List.length_nil]); omega)), rfl, mem_packH [_, _] (mem_take 6 (mem_pick (n := 5) (mem_pick (n := 5) (mem_pick (n := 7) (mem_pick (n := 7) (mem_pick (n := 7) (mem_pick (n := 7) (M) rfl) rfl) rfl) rfl) rfl) rfl))⟩ | exact ⟨⟨_, _, _, _, _⟩, _, (by refine ⟨?_, ?_, ?_, ?_, ?_, ?_⟩ <;> (dsimp only; (try simp only [List.length_append, List.length_set, List.length_cons, List.length_nil]); omega)), rfl, mem_packT [_, _] (mem_take 6 (mem_pick (n := 5) (mem_pick (n := 5) (mem_pick (n := 7) (mem_pick (n := 7) (mem_pick (n := 7) (mem_pick (n := 7) (M) rfl) rfl) rfl) rfl) rfl) rfl))⟩
 try simp only [sA] at hc2
 refine gc_seq fun K44 hK44 => ?_
 refine gc_sr fun K45 hK45 => ?_
 refine gv (qt_eql rfl rfl rfl) ?_
 refine gas ?_
 refine gnt (hK45 _ _ ?_)
 refine gc_cond rfl (fun hc4 => ?_) (fun hc4 => ?_)
 ·try simp only [sA] at hc4
  refine gc_skip ?_
  refine gk_then (hK44 _ _ ?_)
  refine gc_cond rfl (fun hc5 => ?_) (fun hc5 => ?_)
  ·try simp only [sA] at hc5
   refine gc_sr fun K46 hK46 => ?_
   refine gm ?_
   refine gv (qt_gtr rfl rfl rfl) ?_
   refine g_splitv (.free rfl) rfl rfl (qt_move rfl rfl) (fun hs17_2 => ?_) (fun hs17_2 => ?_)
   ·try simp only [sA] at hs17_2
    refine gvh (qtf underlying27 (z := 0) (off := 4)) ?_
    refine gvh (qtl underlying25 (n := 2)) ?_
    refine gvh (qt_move rfl rfl) ?_
    refine gvh (qti2 (fun w M => lenA_U (n := 7) rfl M)) ?_
    refine gvh (qt_loadU (n := 7) rfl rfl underlying24 rfl rfl (by omega) (by omega)) ?_
    refine gvh (qt_len rfl rfl ulE1 (fun w M => lenV_row (n := 7) rfl (by omega) (by omega) M)) ?_
    refine gvh (qt_gtr rfl rfl rfl) ?_
    refine gv (qt_pick_t rfl rfl rfl) ?_
    refine gnt (hK46 _ _ ?_)
    refine gc_cond rfl (fun hc6 => ?_) (fun hc6 => ?_)
    ·try simp only [sA] at hc6
     have hrl : (row2 c.m (r12 : Int)).length = c.s.length := by rw [row2_of, Int.toNat_natCast]; exact hS.rl _ (by omega)
     try simp only [sL]
     refine gc_cut ([(0, _), (1, _), (3, _), (4, _), (5, _), (6, _), (23, _), (45, _), (54, _), (61, _), (74, _), (88, _)] : Env) (fun s : Int × Int => (fun (y : Int) (z : Int) => ([] : Env)) s.1 s.2) (fun s : Int × Int => (fun (y : Int) (z : Int) => ([(7, own2U (.slice cg7 c.m.length ch7) cu7 (c.m.set (r12 : Int).toNat ((row2 c.m (r12 : Int)).set y.toNat z)))] : List (Nat × Itm))) s.1 s.2) (fun s : Int × Int => (fun (y : Int) (z : Int) => ([] : List Itm)) s.1 s.2) (by repeat first | exact sub_nil | refine sub_cons rfl ?_) ?_ (fun HJ47 => ?_)
     ·rintro ⟨y, z⟩
      simp only [sU, sL]
      refine gk_block ?_
      refine gk_then (hK14 _ _ ?_)
      refine gc_sr fun K48 hK48 => ?_
      refine gv (qts underlying27 (n := 2)) ?_
      refine gop fun K49 hK49 => ?_
      refine gss 3 ?_
      refine hK49 _ _ ?_
      refine gnt (hK48 _ _ ?_)
      refine gc_ret ?_
      refine ret_S (n := 3) rfl rfl underlying27 rfl (by kernel_rfl) rfl (fun w M => ?_)
      first | exact ⟨⟨_, _, _, _, _⟩, _, (by refine ⟨?_, ?_, ?_, ?_, ?_, ?_⟩ <;> (dsimp only; (try simp only [List.length_append, List.length_set, List.length_cons, List.length_nil]); omega)), rfl, mem_packH [_, _] (mem_take 6 (mem_pick (n := 5) (mem_pick (n := 5) (mem_pick (n := 7) (mem_pick (n := 7) (mem_pick (n := 7) (mem_pick (n := 7) (M) rfl) rfl) rfl) rfl) rfl) rfl))⟩ | exact ⟨⟨_, _, _, _, _⟩, _, (by refine ⟨?_, ?_, ?_, ?_, ?_, ?_⟩ <;> (dsimp only; (try simp only [List.length_append, List.length_set, List.length_cons, List.length_nil]); omega)), rfl, mem_packT [_, _] (mem_take 6 (mem_pick (n := 5) (mem_pick (n := 5) (mem_pick (n := 7) (mem_pick (n := 7) (mem_pick (n := 7) (mem_pick (n := 7) (M) rfl) rfl) rfl) rfl) rfl) rfl))⟩
     simp only [sU, sL] at HJ47
     refine ga_start _ (fun w M => mem_erase 0 (mem_erase 7 (M))) ?_
     refine gav 0 rfl (qtf underlying27 (z := 0) (off := 4)) ?_
     refine gav 1 rfl (qtl underlying25 (n := 1)) ?_
     refine gav 2 rfl (qt_move rfl rfl) ?_
     refine gav 5 rfl (qt_move rfl rfl) ?_
     refine gav 6 rfl (qtf underlying27 (z := 0) (off := 4)) ?_
     refine gav 7 rfl (qtl underlying25 (n := 1)) ?_
     refine gav 8 rfl (qt_move rfl rfl) ?_
     refine gav 13 rfl (qt_move rfl rfl) ?_
     refine gav 14 rfl (qt_move rfl rfl) ?_
     refine gav 15 rfl (qt_add rfl rfl rfl (by omega)) ?_
     refine gat 3 9 (fun K50 hK50 => ?_) (fun K50 hK50 => ?_)
     ·refine gov (qti2 (fun w M => lenA_U (n := 7) rfl M)) ?_
      refine hK50 _ _ (fun w M => (ms0 0 7 8 M :)) ?_
      refine gat 4 9 (fun K52 hK52 => ?_) (fun K52 hK52 => ?_)
      ·refine gov (qt_loadU (n := 7) rfl rfl underlying24 rfl rfl (by omega) (by omega)) ?_
       refine hK52 _ _ (fun w M => (ms0 0 7 8 M :)) ?_
       refine gao 9 fun K54 hK54 => ?_
       refine gov (qti2 (fun w M => lenA_U (n := 7) rfl M)) ?_
       refine hK54 _ _ (fun w M => (ms0 0 7 8 M :)) ?_
       refine gao 10 fun K55 hK55 => ?_
       refine gov (qt_loadU (n := 7) rfl rfl underlying24 rfl rfl (by omega) (by omega)) ?_
       refine hK55 _ _ (fun w M => (ms0 0 7 8 M :)) ?_
       refine gao 11 fun K56 hK56 => ?_
       refine gov (qt_len rfl rfl ulE1 (fun w M => lenV_row (n := 7) rfl (by omega) (by omega) M)) ?_
       refine hK56 _ _ (fun w M => (ms0 0 7 8 M :)) ?_
       refine gao 12 fun K58 hK58 => ?_
       refine go_srcNext (n := 0) rfl rfl rfl func51 rfl (by decide) rfl hI rfl (by omega) ?_
       intro r57 hs57
       refine hK58 _ _ (fun w M => (ms0 0 7 8 M :)) ?_
       refine gao 16 fun K60 hK60 => ?_
       refine go_srcNext (n := 0) rfl rfl rfl func51 rfl (by decide) rfl hI rfl (by omega) ?_
       intro r59 hs59
       refine hK60 _ _ (fun w M => (ms0 0 7 8 M :)) ?_
       refine gav 17 rfl (qt_sub rfl rfl rfl (by omega)) ?_
       refine gao 18 fun K61 hK61 => ?_
       refine gov (qt_index rfl rfl rfl ulE1 szE1 (fun w M => lenA_row (n := 7) rfl (by omega) (by omega) M) (by omega) (by omega)) ?_
       refine hK61 _ _ (fun w M => (ms0 0 7 8 M :)) ?_
       refine gao 19 fun K62 hK62 => ?_
       refine go_storeU (n := 7) rfl rfl rfl rfl (by kernel_rfl) rfl (by omega) (by omega) (by omega) (by omega) ?_
       refine hK62 _ _ (fun w M => (ms0 0 7 8 M :)) ?_
       refine ga_done (by kernel_rfl) ?_
       refine gk_pickL [0, 0, 0, 0, 0, 0, 0, 0] ?_
       refine gk_sub ?hs_63 (HJ47 (_, _))
       case hs_63 => repeat first | exact sub_nil | refine sub_cons rfl ?_
      refine gov (qti2 (fun w M => lenA_U (n := 7) rfl M)) ?_
      refine hK52 _ _ (fun w M => (ms0 0 7 8 M :)) ?_
      refine gat 4 10 (fun K65 hK65 => ?_) (fun K65 hK65 => ?_)
      ·refine gov (qt_loadU (n := 7) rfl rfl underlying24 rfl rfl (by omega) (by omega)) ?_
       refine hK65 _ _ (fun w M => (ms0 0 7 8 M :)) ?_
       refine gao 10 fun K67 hK67 => ?_
       refine gov (qt_loadU (n := 7) rfl rfl underlying24 rfl rfl (by omega) (by omega)) ?_
       refine hK67 _ _ (fun w M => (ms0 0 7 8 M :)) ?_
       refine gao 11 fun K68 hK68 => ?_
       refine gov (qt_len rfl rfl ulE1 (fun w M => lenV_row (n := 7) rfl (by omega) (by omega) M)) ?_
       refine hK68 _ _ (fun w M => (ms0 0 7 8 M :)) ?_
       refine gao 12 fun K70 hK70 => ?_
       refine go_srcNext (n := 0) rfl rfl rfl func51 rfl (by decide) rfl hI rfl (by omega) ?_
       intro r69 hs69
       refine hK70 _ _ (fun w M => (ms0 0 7 8 M :)) ?_
       refine gao 16 fun K72 hK72 => ?_
       refine go_srcNext (n := 0) rfl rfl rfl func51 rfl (by decide) rfl hI rfl (by omega) ?_
       intro r71 hs71
       refine hK72 _ _ (fun w M => (ms0 0 7 8 M :)) ?_
       refine gav 17 rfl (qt_sub rfl rfl rfl (by omega)) ?_
       refine gao 18 fun K73 hK73 => ?_
       refine gov (qt_index rfl rfl rfl ulE1 szE1 (fun w M => lenA_row (n := 7) rfl (by omega) (by omega) M) (by omega) (by omega)) ?_
       refine hK73 _ _ (fun w M => (ms0 0 7 8 M :)) ?_
       refine gao 19 fun K74 hK74 => ?_
       refine go_storeU (n := 7) rfl rfl rfl rfl (by kernel_rfl) rfl (by omega) (by omega) (by omega) (by omega) ?_
       refine hK74 _ _ (fun w M => (ms0 0 7 8 M :)) ?_
       refine ga_done (by kernel_rfl) ?_
       refine gk_pickL [0, 0, 0, 0, 0, 0, 0, 0] ?_
       refine gk_sub ?hs_75 (HJ47 (_, _))
       case hs_75 => repeat first | exact sub_nil | refine sub_cons rfl ?_
      refine gov (qt_loadU (n := 7) rfl rfl underlying24 rfl rfl (by omega) (by omega)) ?_
      refine hK65 _ _ (fun w M => (ms0 0 7 8 M :)) ?_
      refine gat 4 11 (fun K77 hK77 => ?_) (fun K77 hK77 => ?_)
      ·refine gov (qt_loadU (n := 7) rfl rfl underlying24 rfl rfl (by omega) (by omega)) ?_
       refine hK77 _ _ (fun w M => (ms0 0 7 8 M :)) ?_
       refine gao 11 fun K79 hK79 => ?_
       refine gov (qt_len rfl rfl ulE1 (fun w M => lenV_row (n := 7) rfl (by omega) (by omega) M)) ?_
       refine hK79 _ _ (fun w M => (ms0 0 7 8 M :)) ?_
       refine gao 12 fun K81 hK81 => ?_
       refine go_srcNext (n := 0) rfl rfl rfl func51 rfl (by decide) rfl hI rfl (by omega) ?_
       intro r80 hs80
       refine hK81 _ _ (fun w M => (ms0 0 7 8 M :)) ?_
       refine gao 16 fun K83 hK83 => ?_
       refine go_srcNext (n := 0) rfl rfl rfl func51 rfl (by decide) rfl hI rfl (by omega) ?_
       intro r82 hs82
       refine hK83 _ _ (fun w M => (ms0 0 7 8 M :)) ?_
       refine gav 17 rfl (qt_sub rfl rfl rfl (by omega)) ?_
       refine gao 18 fun K84 hK84 => ?_
       refine gov (qt_index rfl rfl rfl ulE1 szE1 (fun w M => lenA_row (n := 7) rfl (by omega) (by omega) M) (by omega) (by omega)) ?_
       refine hK84 _ _ (fun w M => (ms0 0 7 8 M :)) ?_
       refine gao 19 fun K85 hK85 => ?_
       refine go_storeU (n := 7) rfl rfl rfl rfl (by kernel_rfl) rfl (by omega) (by omega) (by omega) (by omega) ?_
       refine hK85 _ _ (fun w M => (ms0 0 7 8 M :)) ?_
       refine ga_done (by kernel_rfl) ?_
       refine gk_pickL [0, 0, 0, 0, 0, 0, 0, 0] ?_
       refine gk_sub ?hs_86 (HJ47 (_, _))
       case hs_86 => repeat first | exact sub_nil | refine sub_cons rfl ?_
      refine gov (qt_len rfl rfl ulE1 (fun w M => lenV_row (n := 7) rfl (by omega) (by omega) M)) ?_
      refine hK77 _ _ (fun w M => (ms0 0 7 8 M :)) ?_
      refine gat 4 12 (fun K88 hK88 => ?_) (fun K88 hK88 => ?_)
      ·refine gov (qt_loadU (n := 7) rfl rfl underlying24 rfl rfl (by omega) (by omega)) ?_
       refine hK88 _ _ (fun w M => (ms0 0 7 8 M :)) ?_
       refine gao 12 fun K91 hK91 => ?_
       refine go_srcNext (n := 0) rfl rfl rfl func51 rfl (by decide) rfl hI rfl (by omega) ?_
       intro r90 hs90
       refine hK91 _ _ (fun w M => (ms0 0 7 8 M :)) ?_
       refine gao 16 fun K93 hK93 => ?_
       refine go_srcNext (n := 0) rfl rfl rfl func51 rfl (by decide) rfl hI rfl (by omega) ?_
       intro r92 hs92
       refine hK93 _ _ (fun w M => (ms0 0 7 8 M :)) ?_
       refine gav 17 rfl (qt_sub rfl rfl rfl (by omega)) ?_
       refine gao 18 fun K94 hK94 => ?_
       refine gov (qt_index rfl rfl rfl ulE1 szE1 (fun w M => lenA_row (n := 7) rfl (by omega) (by omega) M) (by omega) (by omega)) ?_
       refine hK94 _ _ (fun w M => (ms0 0 7 8 M :)) ?_
       refine gao 19 fun K95 hK95 => ?_
       refine go_storeU (n := 7) rfl rfl rfl rfl (by kernel_rfl) rfl (by omega) (by omega) (by omega) (by omega) ?_
       refine hK95 _ _ (fun w M => (ms0 0 7 8 M :)) ?_
       refine ga_done (by kernel_rfl) ?_
       refine gk_pickL [0, 0, 0, 0, 0, 0, 0, 0] ?_
       refine gk_sub ?hs_96 (HJ47 (_, _))
       case hs_96 => repeat first | exact sub_nil | refine sub_cons rfl ?_
      refine go_srcNext (n := 0) rfl rfl rfl func51 rfl (by decide) rfl hI rfl (by omega) ?_
      intro r97 hs97
      refine hK88 _ _ (fun w M => (ms0 0 7 8 M :)) ?_
      refine gat 4 16 (fun K99 hK99 => ?_) (fun K99 hK99 => ?_)
      ·refine gov (qt_loadU (n := 7) rfl rfl underlying24 rfl rfl (by omega) (by omega)) ?_
       refine hK99 _ _ (fun w M => (ms0 0 7 8 M :)) ?_
       refine gao 16 fun K102 hK102 => ?_
       refine go_srcNext (n := 0) rfl rfl rfl func51 rfl (by decide) rfl hI rfl (by omega) ?_
       intro r101 hs101
       refine hK102 _ _ (fun w M => (ms0 0 7 8 M :)) ?_
       refine gav 17 rfl (qt_sub rfl rfl rfl (by omega)) ?_
       refine gao 18 fun K103 hK103 => ?_
       refine gov (qt_index rfl rfl rfl ulE1 szE1 (fun w M => lenA_row (n := 7) rfl (by omega) (by omega) M) (by omega) (by omega)) ?_
       refine hK103 _ _ (fun w M => (ms0 0 7 8 M :)) ?_
       refine gao 19 fun K104 hK104 => ?_
       refine go_storeU (n := 7) rfl rfl rfl rfl (by kernel_rfl) rfl (by omega) (by omega) (by omega) (by omega) ?_
       refine hK104 _ _ (fun w M => (ms0 0 7 8 M :)) ?_
       refine ga_done (by kernel_rfl) ?_
       refine gk_pickL [0, 0, 0, 0, 0, 0, 0, 0] ?_
       refine gk_sub ?hs_105 (HJ47 (_, _))
       case hs_105 => repeat first | exact sub_nil | refine sub_cons rfl ?_
      refine go_srcNext (n := 0) rfl rfl rfl func51 rfl (by decide) rfl hI rfl (by omega) ?_
      intro r106 hs106
      refine hK99 _ _ (fun w M => (ms0 0 7 8 M :)) ?_
      refine gav 17 rfl (qt_sub rfl rfl rfl (by omega)) ?_
      refine gao 4 fun K108 hK108 => ?_
      refine gov (qt_loadU (n := 7) rfl rfl underlying24 rfl rfl (by omega) (by omega)) ?_
      refine hK108 _ _ (fun w M => (ms0 0 7 8 M :)) ?_
      refine gao 18 fun K109 hK109 => ?_
      refine gov (qt_index rfl rfl rfl ulE1 szE1 (fun w M => lenA_row (n := 7) rfl (by omega) (by omega) M) (by omega) (by omega)) ?_
      refine hK109 _ _ (fun w M => (ms0 0 7 8 M :)) ?_
      refine gao 19 fun K110 hK110 => ?_
      refine go_storeU (n := 7) rfl rfl rfl rfl (by kernel_rfl) rfl (by omega) (by omega) (by omega) (by omega) ?_
      refine hK110 _ _ (fun w M => (ms0 0 7 8 M :)) ?_
      refine ga_done (by kernel_rfl) ?_
      refine gk_pickL [0, 0, 0, 0, 0, 0, 0, 0] ?_
      refine gk_sub ?hs_111 (HJ47 (_, _))
      case hs_111 => repeat first | exact sub_nil | refine sub_cons rfl ?_
     refine gov (qti2 (fun w M => lenA_U (n := 7) rfl M)) ?_
     refine hK50 _ _ (fun w M => (ms0 0 7 8 M :)) ?_
     refine gat 3 10 (fun K113 hK113 => ?_) (fun K113 hK113 => ?_)
     ·refine gov (qti2 (fun w M => lenA_U (n := 7) rfl M)) ?_
      refine hK113 _ _ (fun w M => (ms0 0 7 8 M :)) ?_
      refine gat 4 10 (fun K115 hK115 => ?_) (fun K115 hK115 => ?_)
      ·refine gov (qt_loadU (n := 7) rfl rfl underlying24 rfl rfl (by omega) (by omega)) ?_
       refine hK115 _ _ (fun w M => (ms0 0 7 8 M :)) ?_
       refine gao 10 fun K117 hK117 => ?_
       refine gov (qt_loadU (n := 7) rfl rfl underlying24 rfl rfl (by omega) (by omega)) ?_
       refine hK117 _ _ (fun w M => (ms0 0 7 8 M :)) ?_
       refine gao 11 fun K118 hK118 => ?_
       refine gov (qt_len rfl rfl ulE1 (fun w M => lenV_row (n := 7) rfl (by omega) (by omega) M)) ?_
       refine hK118 _ _ (fun w M => (ms0 0 7 8 M :)) ?_
       refine gao 12 fun K120 hK120 => ?_
       refine go_srcNext (n := 0) rfl rfl rfl func51 rfl (by decide) rfl hI rfl (by omega) ?_
       intro r119 hs119
       refine hK120 _ _ (fun w M => (ms0 0 7 8 M :)) ?_
       refine gao 16 fun K122 hK122 => ?_
       refine go_srcNext (n := 0) rfl rfl rfl func51 rfl (by decide) rfl hI rfl (by omega) ?_
       intro r121 hs121
       refine hK122 _ _ (fun w M => (ms0 0 7 8 M :)) ?_
       refine gav 17 rfl (qt_sub rfl rfl rfl (by omega)) ?_
       refine gao 18 fun K123 hK123 => ?_
       refine gov (qt_index rfl rfl rfl ulE1 szE1 (fun w M => lenA_row (n := 7) rfl (by omega) (by omega) M) (by omega) (by omega)) ?_
       refine hK123 _ _ (fun w M => (ms0 0 7 8 M :)) ?_
       refine gao 19 fun K124 hK124 => ?_
       refine go_storeU (n := 7) rfl rfl rfl rfl (by kernel_rfl) rfl (by omega) (by omega) (by omega) (by omega) ?_
       refine hK124 _ _ (fun w M => (ms0 0 7 8 M :)) ?_
       refine ga_done (by kernel_rfl) ?_
       refine gk_pickL [0, 0, 0, 0, 0, 0, 0, 0] ?_
       refine gk_sub ?hs_125 (HJ47 (_, _))
       case hs_125 => repeat first | exact sub_nil | refine sub_cons rfl ?_
      refine gov (qt_loadU (n := 7) rfl rfl underlying24 rfl rfl (by omega) (by omega)) ?_
      refine hK115 _ _ (fun w M => (ms0 0 7 8 M :)) ?_
      refine gat 4 11 (fun K127 hK127 => ?_) (fun K127 hK127 => ?_)
      ·refine gov (qt_loadU (n := 7) rfl rfl underlying24 rfl rfl (by omega) (by omega)) ?_
       refine hK127 _ _ (fun w M => (ms0 0 7 8 M :)) ?_
       refine gao 11 fun K129 hK129 => ?_
       refine gov (qt_len rfl rfl ulE1 (fun w M => lenV_row (n := 7) rfl (by omega) (by omega) M)) ?_
       refine hK129 _ _ (fun w M => (ms0 0 7 8 M :)) ?_
       refine gao 12 fun K131 hK131 => ?_
       refine go_srcNext (n := 0) rfl rfl rfl func51 rfl (by decide) rfl hI rfl (by omega) ?_
       intro r130 hs130
       refine hK131 _ _ (fun w M => (ms0 0 7 8 M :)) ?_
       refine gao 16 fun K133 hK133 => ?_
       refine go_srcNext (n := 0) rfl rfl rfl func51 rfl (by decide) rfl hI rfl (by omega) ?_
       intro r132 hs132
       refine hK133 _ _ (fun w M => (ms0 0 7 8 M :)) ?_
       refine gav 17 rfl (qt_sub rfl rfl rfl (by omega)) ?_
       refine gao 18 fun K134 hK134 => ?_
       refine gov (qt_index rfl rfl rfl ulE1 szE1 (fun w M => lenA_row (n := 7) rfl (by omega) (by omega) M) (by omega) (by omega)) ?_
       refine hK134 _ _ (fun w M => (ms0 0 7 8 M :)) ?_
       refine gao 19 fun K135 hK135 => ?_
       refine go_storeU (n := 7) rfl rfl rfl rfl (by kernel_rfl) rfl (by omega) (by omega) (by omega) (by omega) ?_
       refine hK135 _ _ (fun w M => (ms0 0 7 8 M :)) ?_
       refine ga_done (by kernel_rfl) ?_
       refine gk_pickL [0, 0, 0, 0, 0, 0, 0, 0] ?_
       refine gk_sub ?hs_136 (HJ47 (_, _))
       case hs_136 => repeat first | exact sub_nil | refine sub_cons rfl ?_
      refine gov (qt_len rfl rfl ulE1 (fun w M => lenV_row (n := 7) rfl (by omega) (by omega) M)) ?_
      refine hK127 _ _ (fun w M => (ms0 0 7 8 M :)) ?_
      refine gat 4 12 (fun K138 hK138 => ?_) (fun K138 hK138 => ?_)
      ·refine gov (qt_loadU (n := 7) rfl rfl underlying24 rfl rfl (by omega) (by omega)) ?_
       refine hK138 _ _ (fun w M => (ms0 0 7 8 M :)) ?_
       refine gao 12 fun K141 hK141 => ?_
       refine go_srcNext (n := 0) rfl rfl rfl func51 rfl (by decide) rfl hI rfl (by omega) ?_
       intro r140 hs140
       refine hK141 _ _ (fun w M => (ms0 0 7 8 M :)) ?_
       refine gao 16 fun K143 hK143 => ?_
       refine go_srcNext (n := 0) rfl rfl rfl func51 rfl (by decide) rfl hI rfl (by omega) ?_
       intro r142 hs142
       refine hK143 _ _ (fun w M => (ms0 0 7 8 M :)) ?_
       refine gav 17 rfl (qt_sub rfl rfl rfl (by omega)) ?_
       refine gao 18 fun K144 hK144 => ?_
       refine gov (qt_index rfl rfl rfl ulE1 szE1 (fun w M => lenA_row (n := 7) rfl (by omega) (by omega) M) (by omega) (by omega)) ?_
       refine hK144 _ _ (fun w M => (ms0 0 7 8 M :)) ?_
       refine gao 19 fun K145 hK145 => ?_
       refine go_storeU (n := 7) rfl rfl rfl rfl (by kernel_rfl) rfl (by omega) (by omega) (by omega) (by omega) ?_
       refine hK145 _ _ (fun w M => (ms0 0 7 8 M :)) ?_
       refine ga_done (by kernel_rfl) ?_
       refine gk_pickL [0, 0, 0, 0, 0, 0, 0, 0] ?_
       refine gk_sub ?hs_146 (HJ47 (_, _))
       case hs_146 => repeat first | exact sub_nil | refine sub_cons rfl ?_
      refine go_srcNext (n := 0) rfl rfl rfl func51 rfl (by decide) rfl hI rfl (by omega) ?_
      intro r147 hs147
      refine hK138 _ _ (fun w M => (ms0 0 7 8 M :)) ?_
      refine gat 4 16 (fun K149 hK149 => ?_) (fun K149 hK149 => ?_)
      ·refine gov (qt_loadU (n := 7) rfl rfl underlying24 rfl rfl (by omega) (by omega)) ?_
       refine hK149 _ _ (fun w M => (ms0 0 7 8 M :)) ?_
       refine gao 16 fun K152 hK152 => ?_
       refine go_srcNext (n := 0) rfl rfl rfl func51 rfl (by decide) rfl hI rfl (by omega) ?_
       intro r151 hs151
       refine hK152 _ _ (fun w M => (ms0 0 7 8 M :)) ?_
       refine gav 17 rfl (qt_sub rfl rfl rfl (by omega)) ?_
       refine gao 18 fun K153 hK153 => ?_
       refine gov (qt_index rfl rfl rfl ulE1 szE1 (fun w M => lenA_row (n := 7) rfl (by omega) (by omega) M) (by omega) (by omega)) ?_
       refine hK153 _ _ (fun w M => (ms0 0 7 8 M :)) ?_
       refine gao 19 fun K154 hK154 => ?_
       refine go_storeU (n := 7) rfl rfl rfl rfl (by kernel_rfl) rfl (by omega) (by omega) (by omega) (by omega) ?_
       refine hK154 _ _ (fun w M => (ms0 0 7 8 M :)) ?_
       refine ga_done (by kernel_rfl) ?_
       refine gk_pickL [0, 0, 0, 0, 0, 0, 0, 0] ?_
       refine gk_sub ?hs_155 (HJ47 (_, _))
       case hs_155 => repeat first | exact sub_nil | refine sub_cons rfl ?_
      refine go_srcNext (n := 0) rfl rfl rfl func51 rfl (by decide) rfl hI rfl (by omega) ?_
      intro r156 hs156
      refine hK149 _ _ (fun w M => (ms0 0 7 8 M :)) ?_
      refine gav 17 rfl (qt_sub rfl rfl rfl (by omega)) ?_
      refine gao 4 fun K158 hK158 => ?_
      refine gov (qt_loadU (n := 7) rfl rfl underlying24 rfl rfl (by omega) (by omega)) ?_
      refine hK158 _ _ (fun w M => (ms0 0 7 8 M :)) ?_
      refine gao 18 fun K159 hK159 => ?_
      refine gov (qt_index rfl rfl rfl ulE1 szE1 (fun w M => lenA_row (n := 7) rfl (by omega) (by omega) M) (by omega) (by omega)) ?_
      refine hK159 _ _ (fun w M => (ms0 0 7 8 M :)) ?_
      refine gao 19 fun K160 hK160 => ?_
      refine go_storeU (n := 7) rfl rfl rfl rfl (by kernel_rfl) rfl (by omega) (by omega) (by omega) (by omega) ?_
      refine hK160 _ _ (fun w M => (ms0 0 7 8 M :)) ?_
      refine ga_done (by kernel_rfl) ?_
      refine gk_pickL [0, 0, 0, 0, 0, 0, 0, 0] ?_
      refine gk_sub ?hs_161 (HJ47 (_, _))
      case hs_161 => repeat first | exact sub_nil | refine sub_cons rfl ?_
     refine gov (qt_loadU (n := 7) rfl rfl underlying24 rfl rfl (by omega) (by omega)) ?_
     refine hK113 _ _ (fun w M => (ms0 0 7 8 M :)) ?_
     refine gat 3 11 (fun K163 hK163 => ?_) (fun K163 hK163 => ?_)
     ·refine gov (qti2 (fun w M => lenA_U (n := 7) rfl M)) ?_
      refine hK163 _ _ (fun w M => (ms0 0 7 8 M :)) ?_
      refine gat 4 11 (fun K165 hK165 => ?_) (fun K165 hK165 => ?_)
      ·refine gov (qt_loadU (n := 7) rfl rfl underlying24 rfl rfl (by omega) (by omega)) ?_
       refine hK165 _ _ (fun w M => (ms0 0 7 8 M :)) ?_
       refine gao 11 fun K167 hK167 => ?_
       refine gov (qt_len rfl rfl ulE1 (fun w M => lenV_row (n := 7) rfl (by omega) (by omega) M)) ?_
       refine hK167 _ _ (fun w M => (ms0 0 7 8 M :)) ?_
       refine gao 12 fun K169 hK169 => ?_
       refine go_srcNext (n := 0) rfl rfl rfl func51 rfl (by decide) rfl hI rfl (by omega) ?_
       intro r168 hs168
       refine hK169 _ _ (fun w M => (ms0 0 7 8 M :)) ?_
       refine gao 16 fun K171 hK171 => ?_
       refine go_srcNext (n := 0) rfl rfl rfl func51 rfl (by decide) rfl hI rfl (by omega) ?_
       intro r170 hs170
       refine hK171 _ _ (fun w M => (ms0 0 7 8 M :)) ?_
       refine gav 17 rfl (qt_sub rfl rfl rfl (by omega)) ?_
       refine gao 18 fun K172 hK172 => ?_
       refine gov (qt_index rfl rfl rfl ulE1 szE1 (fun w M => lenA_row (n := 7) rfl (by omega) (by omega) M) (by omega) (by omega)) ?_
       refine hK172 _ _ (fun w M => (ms0 0 7 8 M :)) ?_
       refine gao 19 fun K173 hK173 => ?_
       refine go_storeU (n := 7) rfl rfl rfl rfl (by kernel_rfl) rfl (by omega) (by omega) (by omega) (by omega) ?_
       refine hK173 _ _ (fun w M => (ms0 0 7 8 M :)) ?_
       refine ga_done (by kernel_rfl) ?_
       refine gk_pickL [0, 0, 0, 0, 0, 0, 0, 0] ?_
       refine gk_sub ?hs_174 (HJ47 (_, _))
       case hs_174 => repeat first | exact sub_nil | refine sub_cons rfl ?_
      refine gov (qt_len rfl rfl ulE1 (fun w M => lenV_row (n := 7) rfl (by omega) (by omega) M)) ?_
      refine hK165 _ _ (fun w M => (ms0 0 7 8 M :)) ?_
      refine gat 4 12 (fun K176 hK176 => ?_) (fun K176 hK176 => ?_)
      ·refine gov (qt_loadU (n := 7) rfl rfl underlying24 rfl rfl (by omega) (by omega)) ?_
       refine hK176 _ _ (fun w M => (ms0 0 7 8 M :)) ?_
       refine gao 12 fun K179 hK179 => ?_
       refine go_srcNext (n := 0) rfl rfl rfl func51 rfl (by decide) rfl hI rfl (by omega) ?_
       intro r178 hs178
       refine hK179 _ _ (fun w M => (ms0 0 7 8 M :)) ?_
       refine gao 16 fun K181 hK181 => ?_
       refine go_srcNext (n := 0) rfl rfl rfl func51 rfl (by decide) rfl hI rfl (by omega) ?_
       intro r180 hs180
       refine hK181 _ _ (fun w M => (ms0 0 7 8 M :)) ?_
       refine gav 17 rfl (qt_sub rfl rfl rfl (by omega)) ?_
       refine gao 18 fun K182 hK182 => ?_
       refine gov (qt_index rfl rfl rfl ulE1 szE1 (fun w M => lenA_row (n := 7) rfl (by omega) (by omega) M) (by omega) (by omega)) ?_
       refine hK182 _ _ (fun w M => (ms0 0 7 8 M :)) ?_
       refine gao 19 fun K183 hK183 => ?_
       refine go_storeU (n := 7) rfl rfl rfl rfl (by kernel_rfl) rfl (by omega) (by omega) (by omega) (by omega) ?_
       refine hK183 _ _ (fun w M => (ms0 0 7 8 M :)) ?_
       refine ga_done (by kernel_rfl) ?_
       refine gk_pickL [0, 0, 0, 0, 0, 0, 0, 0] ?_
       refine gk_sub ?hs_184 (HJ47 (_, _))
       case hs_184 => repeat first | exact sub_nil | refine sub_cons rfl ?_
      refine go_srcNext (n := 0) rfl rfl rfl func51 rfl (by decide) rfl hI rfl (by omega) ?_
      intro r185 hs185
      refine hK176 _ _ (fun w M => (ms0 0 7 8 M :)) ?_
      refine gat 4 16 (fun K187 hK187 => ?_) (fun K187 hK187 => ?_)
      ·refine gov (qt_loadU (n := 7) rfl rfl underlying24 rfl rfl (by omega) (by omega)) ?_
       refine hK187 _ _ (fun w M => (ms0 0 7 8 M :)) ?_
       refine gao 16 fun K190 hK190 => ?_
       refine go_srcNext (n := 0) rfl rfl rfl func51 rfl (by decide) rfl hI rfl (by omega) ?_
       intro r189 hs189
       refine hK190 _ _ (fun w M => (ms0 0 7 8 M :)) ?_
       refine gav 17 rfl (qt_sub rfl rfl rfl (by omega)) ?_
       refine gao 18 fun K191 hK191 => ?_
       refine gov (qt_index rfl rfl rfl ulE1 szE1 (fun w M => lenA_row (n := 7) rfl (by omega) (by omega) M) (by omega) (by omega)) ?_
       refine hK191 _ _ (fun w M => (ms0 0 7 8 M :)) ?_
       refine gao 19 fun K192 hK192 => ?_
       refine go_storeU (n := 7) rfl rfl rfl rfl (by kernel_rfl) rfl (by omega) (by omega) (by omega) (by omega) ?_
       refine hK192 _ _ (fun w M => (ms0 0 7 8 M :)) ?_
       refine ga_done (by kernel_rfl) ?_
       refine gk_pickL [0, 0, 0, 0, 0, 0, 0, 0] ?_
       refine gk_sub ?hs_193 (HJ47 (_, _))
       case hs_193 => repeat first | exact sub_nil | refine sub_cons rfl ?_
      refine go_srcNext (n := 0) rfl rfl rfl func51 rfl (by decide) rfl hI rfl (by omega) ?_
      intro r194 hs194
      refine hK187 _ _ (fun w M => (ms0 0 7 8 M :)) ?_
      refine gav 17 rfl (qt_sub rfl rfl rfl (by omega)) ?_
      refine gao 4 fun K196 hK196 => ?_
      refine gov (qt_loadU (n := 7) rfl rfl underlying24 rfl rfl (by omega) (by omega)) ?_
      refine hK196 _ _ (fun w M => (ms0 0 7 8 M :)) ?_
      refine gao 18 fun K197 hK197 => ?_
      refine gov (qt_index rfl rfl rfl ulE1 szE1 (fun w M => lenA_row (n := 7) rfl (by omega) (by omega) M) (by omega) (by omega)) ?_
      refine hK197 _ _ (fun w M => (ms0 0 7 8 M :)) ?_
      refine gao 19 fun K198 hK198 => ?_
      refine go_storeU (n := 7) rfl rfl rfl rfl (by kernel_rfl) rfl (by omega) (by omega) (by omega) (by omega) ?_
      refine hK198 _ _ (fun w M => (ms0 0 7 8 M :)) ?_
      refine ga_done (by kernel_rfl) ?_
      refine gk_pickL [0, 0, 0, 0, 0, 0, 0, 0] ?_
      refine gk_sub ?hs_199 (HJ47 (_, _))
      case hs_199 => repeat first | exact sub_nil | refine sub_cons rfl ?_
     refine gov (qt_len rfl rfl ulE1 (fun w M => lenV_row (n := 7) rfl (by omega) (by omega) M)) ?_
     refine hK163 _ _ (fun w M => (ms0 0 7 8 M :)) ?_
     refine gat 3 12 (fun K201 hK201 => ?_) (fun K201 hK201 => ?_)
     ·refine gov (qti2 (fun w M => lenA_U (n := 7) rfl M)) ?_
      refine hK201 _ _ (fun w M => (ms0 0 7 8 M :)) ?_
      refine gat 4 12 (fun K203 hK203 => ?_) (fun K203 hK203 => ?_)
      ·refine gov (qt_loadU (n := 7) rfl rfl underlying24 rfl rfl (by omega) (by omega)) ?_
       refine hK203 _ _ (fun w M => (ms0 0 7 8 M :)) ?_
       refine gao 12 fun K206 hK206 => ?_
       refine go_srcNext (n := 0) rfl rfl rfl func51 rfl (by decide) rfl hI rfl (by omega) ?_
       intro r205 hs205
       refine hK206 _ _ (fun w M => (ms0 0 7 8 M :)) ?_
       refine gao 16 fun K208 hK208 => ?_
       refine go_srcNext (n := 0) rfl rfl rfl func51 rfl (by decide) rfl hI rfl (by omega) ?_
       intro r207 hs207
       refine hK208 _ _ (fun w M => (ms0 0 7 8 M :)) ?_
       refine gav 17 rfl (qt_sub rfl rfl rfl (by omega)) ?_
       refine gao 18 fun K209 hK209 => ?_
       refine gov (qt_index rfl rfl rfl ulE1 szE1 (fun w M => lenA_row (n := 7) rfl (by omega) (by omega) M) (by omega) (by omega)) ?_
       refine hK209 _ _ (fun w M => (ms0 0 7 8 M :)) ?_
       refine gao 19 fun K210 hK210 => ?_
       refine go_storeU (n := 7) rfl rfl rfl rfl (by kernel_rfl) rfl (by omega) (by omega) (by omega) (by omega) ?_
       refine hK210 _ _ (fun w M => (ms0 0 7 8 M :)) ?_
       refine ga_done (by kernel_rfl) ?_
       refine gk_pickL [0, 0, 0, 0, 0, 0, 0, 0] ?_
       refine gk_sub ?hs_211 (HJ47 (_, _))
       case hs_211 => repeat first | exact sub_nil | refine sub_cons rfl ?_
      refine go_srcNext (n := 0) rfl rfl rfl func51 rfl (by decide) rfl hI rfl (by omega) ?_
      intro r212 hs212
      refine hK203 _ _ (fun w M => (ms0 0 7 8 M :)) ?_
      refine gat 4 16 (fun K214 hK214 => ?_) (fun K214 hK214 => ?_)
      ·refine gov (qt_loadU (n := 7) rfl rfl underlying24 rfl rfl (by omega) (by omega)) ?_
       refine hK214 _ _ (fun w M => (ms0 0 7 8 M :)) ?_
       refine gao 16 fun K217 hK217 => ?_
       refine go_srcNext (n := 0) rfl rfl rfl func51 rfl (by decide) rfl hI rfl (by omega) ?_
       intro r216 hs216
       refine hK217 _ _ (fun w M => (ms0 0 7 8 M :)) ?_
       refine gav 17 rfl (qt_sub rfl rfl rfl (by omega)) ?_
       refine gao 18 fun K218 hK218 => ?_
       refine gov (qt_index rfl rfl rfl ulE1 szE1 (fun w M => lenA_row (n := 7) rfl (by omega) (by omega) M) (by omega) (by omega)) ?_
       refine hK218 _ _ (fun w M => (ms0 0 7 8 M :)) ?_
       refine gao 19 fun K219 hK219 => ?_
       refine go_storeU (n := 7) rfl rfl rfl rfl (by kernel_rfl) rfl (by omega) (by omega) (by omega) (by omega) ?_
       refine hK219 _ _ (fun w M => (ms0 0 7 8 M :)) ?_
       refine ga_done (by kernel_rfl) ?_
       refine gk_pickL [0, 0, 0, 0, 0, 0, 0, 0] ?_
       refine gk_sub ?hs_220 (HJ47 (_, _))
       case hs_220 => repeat first | exact sub_nil | refine sub_cons rfl ?_
      refine go_srcNext (n := 0) rfl rfl rfl func51 rfl (by decide) rfl hI rfl (by omega) ?_
      intro r221 hs221
      refine hK214 _ _ (fun w M => (ms0 0 7 8 M :)) ?_
      refine gav 17 rfl (qt_sub rfl rfl rfl (by omega)) ?_
      refine gao 4 fun K223 hK223 => ?_
      refine gov (qt_loadU (n := 7) rfl rfl underlying24 rfl rfl (by omega) (by omega)) ?_
      refine hK223 _ _ (fun w M => (ms0 0 7 8 M :)) ?_
      refine gao 18 fun K224 hK224 => ?_
      refine gov (qt_index rfl rfl rfl ulE1 szE1 (fun w M => lenA_row (n := 7) rfl (by omega) (by omega) M) (by omega) (by omega)) ?_
      refine hK224 _ _ (fun w M => (ms0 0 7 8 M :)) ?_
      refine gao 19 fun K225 hK225 => ?_
      refine go_storeU (n := 7) rfl rfl rfl rfl (by kernel_rfl) rfl (by omega) (by omega) (by omega) (by omega) ?_
      refine hK225 _ _ (fun w M => (ms0 0 7 8 M :)) ?_
      refine ga_done (by kernel_rfl) ?_
      refine gk_pickL [0, 0, 0, 0, 0, 0, 0, 0] ?_
      refine gk_sub ?hs_226 (HJ47 (_, _))
      case hs_226 => repeat first | exact sub_nil | refine sub_cons rfl ?_
     refine go_srcNext (n := 0) rfl rfl rfl func51 rfl (by decide) rfl hI rfl (by omega) ?_
     intro r227 hs227
     refine hK201 _ _ (fun w M => (ms0 0 7 8 M :)) ?_
     refine gat 3 16 (fun K229 hK229 => ?_) (fun K229 hK229 => ?_)
     ·refine gov (qti2 (fun w M => lenA_U (n := 7) rfl M)) ?_
      refine hK229 _ _ (fun w M => (ms0 0 7 8 M :)) ?_
      refine gat 4 16 (fun K231 hK231 => ?_) (fun K231 hK231 => ?_)
      ·refine gov (qt_loadU (n := 7) rfl rfl underlying24 rfl rfl (by omega) (by omega)) ?_
       refine hK231 _ _ (fun w M => (ms0 0 7 8 M :)) ?_
       refine gao 16 fun K234 hK234 => ?_
       refine go_srcNext (n := 0) rfl rfl rfl func51 rfl (by decide) rfl hI rfl (by omega) ?_
       intro r233 hs233
       refine hK234 _ _ (fun w M => (ms0 0 7 8 M :)) ?_
       refine gav 17 rfl (qt_sub rfl rfl rfl (by omega)) ?_
       refine gao 18 fun K235 hK235 => ?_
       refine gov (qt_index rfl rfl rfl ulE1 szE1 (fun w M => lenA_row (n := 7) rfl (by omega) (by omega) M) (by omega) (by omega)) ?_
       refine hK235 _ _ (fun w M => (ms0 0 7 8 M :)) ?_
       refine gao 19 fun K236 hK236 => ?_
       refine go_storeU (n := 7) rfl rfl rfl rfl (by kernel_rfl) rfl (by omega) (by omega) (by omega) (by omega) ?_
       refine hK236 _ _ (fun w M => (ms0 0 7 8 M :)) ?_
       refine ga_done (by kernel_rfl) ?_
       refine gk_pickL [0, 0, 0, 0, 0, 0, 0, 0] ?_
       refine gk_sub ?hs_237 (HJ47 (_, _))
       case hs_237 => repeat first | exact sub_nil | refine sub_cons rfl ?_
      refine go_srcNext (n := 0) rfl rfl rfl func51 rfl (by decide) rfl hI rfl (by omega) ?_
      intro r238 hs238
      refine hK231 _ _ (fun w M => (ms0 0 7 8 M :)) ?_
      refine gav 17 rfl (qt_sub rfl rfl rfl (by omega)) ?_
      refine gao 4 fun K240 hK240 => ?_
      refine gov (qt_loadU (n := 7) rfl rfl underlying24 rfl rfl (by omega) (by omega)) ?_
      refine hK240 _ _ (fun w M => (ms0 0 7 8 M :)) ?_
      refine gao 18 fun K241 hK241 => ?_
      refine gov (qt_index rfl rfl rfl ulE1 szE1 (fun w M => lenA_row (n := 7) rfl (by omega) (by omega) M) (by omega) (by omega)) ?_
      refine hK241 _ _ (fun w M => (ms0 0 7 8 M :)) ?_
      refine gao 19 fun K242 hK242 => ?_
      refine go_storeU (n := 7) rfl rfl rfl rfl (by kernel_rfl) rfl (by omega) (by omega) (by omega) (by omega) ?_
      refine hK242 _ _ (fun w M => (ms0 0 7 8 M :)) ?_
      refine ga_done (by kernel_rfl) ?_
      refine gk_pickL [0, 0, 0, 0, 0, 0, 0, 0] ?_
      refine gk_sub ?hs_243 (HJ47 (_, _))
      case hs_243 => repeat first | exact sub_nil | refine sub_cons rfl ?_
     refine go_srcNext (n := 0) rfl rfl rfl func51 rfl (by decide) rfl hI rfl (by omega) ?_
     intro r244 hs244
     refine hK229 _ _ (fun w M => (ms0 0 7 8 M :)) ?_
     refine gav 17 rfl (qt_sub rfl rfl rfl (by omega)) ?_
     refine gao 3 fun K246 hK246 => ?_
     refine gov (qti2 (fun w M => lenA_U (n := 7) rfl M)) ?_
     refine hK246 _ _ (fun w M => (ms0 0 7 8 M :)) ?_
     refine gao 4 fun K247 hK247 => ?_
     refine gov (qt_loadU (n := 7) rfl rfl underlying24 rfl rfl (by omega) (by omega)) ?_
     refine hK247 _ _ (fun w M => (ms0 0 7 8 M :)) ?_
     refine gao 18 fun K248 hK248 => ?_
     refine gov (qt_index rfl rfl rfl ulE1 szE1 (fun w M => lenA_row (n := 7) rfl (by omega) (by omega) M) (by omega) (by omega)) ?_
     refine hK248 _ _ (fun w M => (ms0 0 7 8 M :)) ?_
     refine gao 19 fun K249 hK249 => ?_
     refine go_storeU (n := 7) rfl rfl rfl rfl (by kernel_rfl) rfl (by omega) (by omega) (by omega) (by omega) ?_
     refine hK249 _ _ (fun w M => (ms0 0 7 8 M :)) ?_
     refine ga_done (by kernel_rfl) ?_
     refine gk_pickL [0, 0, 0, 0, 0, 0, 0, 0] ?_
     refine gk_sub ?hs_250 (HJ47 (_, _))
     case hs_250 => repeat first | exact sub_nil | refine sub_cons rfl ?_
    try simp only [sA] at hc6
    refine gc_skip ?_
    refine gk_block ?_
    refine gk_then (hK14 _ _ ?_)
    refine gc_sr fun K251 hK251 => ?_
    refine gv (qts underlying27 (n := 2)) ?_
    refine gop fun K252 hK252 => ?_
    refine gss 3 ?_
    refine hK252 _ _ ?_
    refine gnt (hK251 _ _ ?_)
    refine gc_ret ?_
    refine ret_S (n := 3) rfl rfl underlying27 rfl (by kernel_rfl) rfl (fun w M => ?_)
    first | exact ⟨⟨_, _, _, _, _⟩, _, (by refine ⟨?_, ?_, ?_, ?_, ?_, ?_⟩ <;> (dsimp only; (try simp only [List.length_append, List.length_set, List.length_cons, List.length_nil]); omega)), rfl, mem_packH [_, _] (mem_take 6 (mem_pick (n := 5) (mem_pick (n := 5) (mem_pick (n := 7) (mem_pick (n := 7) (mem_pick (n := 7) (mem_pick (n := 7) (M) rfl) rfl) rfl) rfl) rfl) rfl))⟩ | exact ⟨⟨_, _, _, _, _⟩, _, (by refine ⟨?_, ?_, ?_, ?_, ?_, ?_⟩ <;> (dsimp only; (try simp only [List.length_append, List.length_set, List.length_cons, List.length_nil]); omega)), rfl, mem_packT [_, _] (mem_take 6 (mem_pick (n := 5) (mem_pick (n := 5) (mem_pick (n := 7) (mem_pick (n := 7) (mem_pick (n := 7) (mem_pick (n := 7) (M) rfl) rfl) rfl) rfl) rfl) rfl))⟩
   try simp only [sA] at hs17_2
   refine gsk ?_
   refine gsk ?_
   refine gsk ?_
   refine gsk ?_
   refine gsk ?_
   refine gsk ?_
   refine gsk ?_
   refine gv (qt_pick_f rfl rfl rfl) ?_
   refine gnt (hK46 _ _ ?_)
   refine gc_cond_f rfl ?_
   refine gc_skip ?_
   refine gk_block ?_
   refine gk_then (hK14 _ _ ?_)
   refine gc_sr fun K253 hK253 => ?_
   refine gv (qts underlying27 (n := 2)) ?_
   refine gop fun K254 hK254 => ?_
   refine gss 3 ?_
   refine hK254 _ _ ?_
   refine gnt (hK253 _ _ ?_)
   refine gc_ret ?_
   refine ret_S (n := 3) rfl rfl underlying27 rfl (by kernel_rfl) rfl (fun w M => ?_)
   first | exact ⟨⟨_, _, _, _, _⟩, _, (by refine ⟨?_, ?_, ?_, ?_, ?_, ?_⟩ <;> (dsimp only; (try simp only [List.length_append, List.length_set, List.length_cons, List.length_nil]); omega)), rfl, mem_packH [_, _] (mem_take 6 (mem_pick (n := 5) (mem_pick (n := 5) (mem_pick (n := 7) (mem_pick (n := 7) (mem_pick (n := 7) (mem_pick (n := 7) (M) rfl) rfl) rfl) rfl) rfl) rfl))⟩ | exact ⟨⟨_, _, _, _, _⟩, _, (by refine ⟨?_, ?_, ?_, ?_, ?_, ?_⟩ <;> (dsimp only; (try simp only [List.length_append, List.length_set, List.length_cons, List.length_nil]); omega)), rfl, mem_packT [_, _] (mem_take 6 (mem_pick (n := 5) (mem_pick (n := 5) (mem_pick (n := 7) (mem_pick (n := 7) (mem_pick (n := 7) (mem_pick (n := 7) (M) rfl) rfl) rfl) rfl) rfl) rfl))⟩
  try simp only [sA] at hc5
  refine gc_sr fun K255 hK255 => ?_
  refine gv (qt_eql rfl rfl rfl) ?_
  refine gas ?_
  refine gnt (hK255 _ _ ?_)
  refine gc_cond rfl (fun hc7 => ?_) (fun hc7 => ?_)
  ·try simp only [sA] at hc7
   refine gc_sr fun K256 hK256 => ?_
   refine gm ?_
   refine gv (qt_gtr rfl rfl rfl) ?_
   refine gnt (hK256 _ _ ?_)
   refine gc_cond rfl (fun hc8 => ?_) (fun hc8 => ?_)
   ·try simp only [sA] at hc8
    try simp only [sL]
    refine ga_start _ (fun w M => mem_erase 0 (mem_erase 5 (M))) ?_
    refine gav 0 rfl (qtf underlying27 (z := 0) (off := 2)) ?_
    refine gav 1 rfl (qtl underlying24 (n := 1)) ?_
    refine gav 2 rfl (qt_move rfl rfl) ?_
    refine gav 3 rfl (qt_move rfl rfl) ?_
    refine gav 4 rfl (qtf underlying27 (z := 0) (off := 0)) ?_
    refine gav 5 rfl (qtl underlying2 (n := 1)) ?_
    refine gav 6 rfl (qt_add rfl rfl rfl (by omega)) ?_
    refine gao 7 fun K258 hK258 => ?_
    refine go_srcNext (n := 0) rfl rfl rfl func51 rfl (by decide) rfl hI rfl (by omega) ?_
    intro r257 hs257
    refine hK258 _ _ (fun w M => (ms0 0 5 8 M :)) ?_
    refine gao 8 fun K259 hK259 => ?_
    refine gov (qti (fun w M => lenA_own1 (n := 5) rfl M)) ?_
    refine hK259 _ _ (fun w M => (ms0 0 5 8 M :)) ?_
    refine gao 9 fun K260 hK260 => ?_
    refine go_store1 (n := 5) rfl rfl rfl rfl (by kernel_rfl) rfl (by omega) (by omega) ?_
    refine hK260 _ _ (fun w M => (ms0 0 5 8 M :)) ?_
    refine ga_done (by kernel_rfl) ?_
    refine gk_block ?_
    refine gk_then (hK14 _ _ ?_)
    refine gc_sr fun K261 hK261 => ?_
    refine gv (qts underlying27 (n := 2)) ?_
    refine gop fun K262 hK262 => ?_
    refine gss 3 ?_
    refine hK262 _ _ ?_
    refine gnt (hK261 _ _ ?_)
    refine gc_ret ?_
    refine ret_S (n := 3) rfl rfl underlying27 rfl (by kernel_rfl) rfl (fun w M => ?_)
    first | exact ⟨⟨_, _, _, _, _⟩, _, (by refine ⟨?_, ?_, ?_, ?_, ?_, ?_⟩ <;> (dsimp only; (try simp only [List.length_append, List.length_set, List.length_cons, List.length_nil]); omega)), rfl, mem_packH [_, _] (mem_take 6 (mem_pick (n := 5) (mem_pick (n := 5) (mem_pick (n := 7) (mem_pick (n := 7) (mem_pick (n := 7) (mem_pick (n := 7) (M) rfl) rfl) rfl) rfl) rfl) rfl))⟩ | exact ⟨⟨_, _, _, _, _⟩, _, (by refine ⟨?_, ?_, ?_, ?_, ?_, ?_⟩ <;> (dsimp only; (try simp only [List.length_append, List.length_set, List.length_cons, List.length_nil]); omega)), rfl, mem_packT [_, _] (mem_take 6 (mem_pick (n := 5) (mem_pick (n := 5) (mem_pick (n := 7) (mem_pick (n := 7) (mem_pick (n := 7) (mem_pick (n := 7) (M) rfl) rfl) rfl) rfl) rfl) rfl))⟩
   try simp only [sA] at hc8
   refine gc_skip ?_
   refine gk_block ?_
   refine gk_then (hK14 _ _ ?_)
   refine gc_sr fun K263 hK263 => ?_
   refine gv (qts underlying27 (n := 2)) ?_
   refine gop fun K264 hK264 => ?_
   refine gss 3 ?_
   refine hK264 _ _ ?_
   refine gnt (hK263 _ _ ?_)
   refine gc_ret ?_
   refine ret_S (n := 3) rfl rfl underlying27 rfl (by kernel_rfl) rfl (fun w M => ?_)
   first | exact ⟨⟨_, _, _, _, _⟩, _, (by refine ⟨?_, ?_, ?_, ?_, ?_, ?_⟩ <;> (dsimp only; (try simp only [List.length_append, List.length_set, List.length_cons, List.length_nil]); omega)), rfl, mem_packH [_, _] (mem_take 6 (mem_pick (n := 5) (mem_pick (n := 5) (mem_pick (n := 7) (mem_pick (n := 7) (mem_pick (n := 7) (mem_pick (n := 7) (M) rfl) rfl) rfl) rfl) rfl) rfl))⟩ | exact ⟨⟨_, _, _, _, _⟩, _, (by refine ⟨?_, ?_, ?_, ?_, ?_, ?_⟩ <;> (dsimp only; (try simp only [List.length_append, List.length_set, List.length_cons, List.length_nil]); omega)), rfl, mem_packT [_, _] (mem_take 6 (mem_pick (n := 5) (mem_pick (n := 5) (mem_pick (n := 7) (mem_pick (n := 7) (mem_pick (n := 7) (mem_pick (n := 7) (M) rfl) rfl) rfl) rfl) rfl) rfl))⟩
  try simp only [sA] at hc7
  refine gc_sr fun K265 hK265 => ?_
  refine gm ?_
  refine gv (qt_gtr rfl rfl rfl) ?_
  refine g_splitv (.free rfl) rfl rfl (qt_move rfl rfl) (fun hs5_2 => ?_) (fun hs5_2 => ?_)
  ·try simp only [sA] at hs5_2
   refine gvh (qtf underlying27 (z := 0) (off := 4)) ?_
   refine gvh (qtl underlying25 (n := 2)) ?_
   refine gvh (qt_move rfl rfl) ?_
   refine gvh (qti2 (fun w M => lenA_U (n := 7) rfl M)) ?_
   refine gvh (qt_loadU (n := 7) rfl rfl underlying24 rfl rfl (by omega) (by omega)) ?_
   refine gvh (qt_len rfl rfl ulE1 (fun w M => lenV_row (n := 7) rfl (by omega) (by omega) M)) ?_
   refine gvh (qt_gtr rfl rfl rfl) ?_
   refine gv (qt_pick_t rfl rfl rfl) ?_
   refine gnt (hK265 _ _ ?_)
   refine gc_cond rfl (fun hc9 => ?_) (fun hc9 => ?_)
   ·try simp only [sA] at hc9
    try simp only [sL]
    refine ga_start _ (fun w M => mem_erase 7 (M)) ?_
    refine gav 0 rfl (qtf underlying27 (z := 0) (off := 4)) ?_
    refine gav 1 rfl (qtl underlying25 (n := 2)) ?_
    refine gav 2 rfl (qt_move rfl rfl) ?_
    refine gav 3 rfl (qtf underlying27 (z := 0) (off := 4)) ?_
    refine gav 4 rfl (qtl underlying25 (n := 2)) ?_
    refine gav 5 rfl (qt_move rfl rfl) ?_
    refine gao 6 fun K266 hK266 => ?_
    refine gov (qti2 (fun w M => lenA_U (n := 7) rfl M)) ?_
    refine hK266 _ _ (fun w M => (ms1 7 8 M :)) ?_
    refine gao 7 fun K267 hK267 => ?_
    refine gov (qt_loadU (n := 7) rfl rfl underlying24 rfl rfl (by omega) (by omega)) ?_
    refine hK267 _ _ (fun w M => (ms1 7 8 M :)) ?_
    refine gao 8 fun K268 hK268 => ?_
    refine gov (qt_tail rfl rfl underlying24 (fun w M => mem_rowU (n := 7) M rfl (by omega) (by omega)) (by omega)) ?_
    refine hK268 _ _ (fun w M => (ms1 7 8 M :)) ?_
    refine gao 9 fun K269 hK269 => ?_
    refine gov (qti2 (fun w M => lenA_U (n := 7) rfl M)) ?_
    refine hK269 _ _ (fun w M => (ms1 7 8 M :)) ?_
    refine gao 10 fun K270 hK270 => ?_
    refine go_storeTail (n := 7) rfl rfl rfl rfl (by kernel_rfl) rfl (by omega) (by omega) (by omega) ?_
    refine hK270 _ _ (fun w M => (ms1 7 8 M :)) ?_
    refine ga_done (by kernel_rfl) ?_
    refine gk_block ?_
    refine gk_then (hK14 _ _ ?_)
    refine gc_sr fun K271 hK271 => ?_
    refine gv (qts underlying27 (n := 2)) ?_
    refine gop fun K272 hK272 => ?_
    refine gss 3 ?_
    refine hK272 _ _ ?_
    refine gnt (hK271 _ _ ?_)
    refine gc_ret ?_
    refine ret_S (n := 3) rfl rfl underlying27 rfl (by kernel_rfl) rfl (fun w M => ?_)
    first | exact ⟨⟨_, _, _, _, _⟩, _, (by refine ⟨?_, ?_, ?_, ?_, ?_, ?_⟩ <;> (dsimp only; (try simp only [List.length_append, List.length_set, List.length_cons, List.length_nil]); omega)), rfl, mem_packH [_, _] (mem_take 6 (mem_pick (n := 5) (mem_pick (n := 5) (mem_pick (n := 7) (mem_pick (n := 7) (mem_pick (n := 7) (mem_pick (n := 7) (M) rfl) rfl) rfl) rfl) rfl) rfl))⟩ | exact ⟨⟨_, _, _, _, _⟩, _, (by refine ⟨?_, ?_, ?_, ?_, ?_, ?_⟩ <;> (dsimp only; (try simp only [List.length_append, List.length_set, List.length_cons, List.length_nil]); omega)), rfl, mem_packT [_, _] (mem_take 6 (mem_pick (n := 5) (mem_pick (n := 5) (mem_pick (n := 7) (mem_pick (n := 7) (mem_pick (n := 7) (mem_pick (n := 7) (M) rfl) rfl) rfl) rfl) rfl) rfl))⟩
   try simp only [sA] at hc9
   refine gc_skip ?_
   refine gk_block ?_
   refine gk_then (hK14 _ _ ?_)
   refine gc_sr fun K273 hK273 => ?_
   refine gv (qts underlying27 (n := 2)) ?_
   refine gop fun K274 hK274 => ?_
   refine gss 3 ?_
   refine hK274 _ _ ?_
   refine gnt (hK273 _ _ ?_)
   refine gc_ret ?_
   refine ret_S (n := 3) rfl rfl underlying27 rfl (by kernel_rfl) rfl (fun w M => ?_)
   first | exact ⟨⟨_, _, _, _, _⟩, _, (by refine ⟨?_, ?_, ?_, ?_, ?_, ?_⟩ <;> (dsimp only; (try simp only [List.length_append, List.length_set, List.length_cons, List.length_nil]); omega)), rfl, mem_packH [_, _] (mem_take 6 (mem_pick (n := 5) (mem_pick (n := 5) (mem_pick (n := 7) (mem_pick (n := 7) (mem_pick (n := 7) (mem_pick (n := 7) (M) rfl) rfl) rfl) rfl) rfl) rfl))⟩ | exact ⟨⟨_, _, _, _, _⟩, _, (by refine ⟨?_, ?_, ?_, ?_, ?_, ?_⟩ <;> (dsimp only; (try simp only [List.length_append, List.length_set, List.length_cons, List.length_nil]); omega)), rfl, mem_packT [_, _] (mem_take 6 (mem_pick (n := 5) (mem_pick (n := 5) (mem_pick (n := 7) (mem_pick (n := 7) (mem_pick (n := 7) (mem_pick (n := 7) (M) rfl) rfl) rfl) rfl) rfl) rfl))⟩
  try simp only [sA] at hs5_2
  refine gsk ?_
  refine gsk ?_
  refine gsk ?_
  refine gsk ?_
  refine gsk ?_
  refine gsk ?_
  refine gsk ?_
  refine gv (qt_pick_f rfl rfl rfl) ?_
  refine gnt (hK265 _ _ ?_)
  refine gc_cond_f rfl ?_
  refine gc_skip ?_
  refine gk_block ?_
  refine gk_then (hK14 _ _ ?_)
  refine gc_sr fun K275 hK275 => ?_
  refine gv (qts underlying27 (n := 2)) ?_
  refine gop fun K276 hK276 => ?_
  refine gss 3 ?_
  refine hK276 _ _ ?_
  refine gnt (hK275 _ _ ?_)
  refine gc_ret ?_
  refine ret_S (n := 3) rfl rfl underlying27 rfl (by kernel_rfl) rfl (fun w M => ?_)
  first | exact ⟨⟨_, _, _, _, _⟩, _, (by refine ⟨?_, ?_, ?_, ?_, ?_, ?_⟩ <;> (dsimp only; (try simp only [List.length_append, List.length_set, List.length_cons, List.length_nil]); omega)), rfl, mem_packH [_, _] (mem_take 6 (mem_pick (n := 5) (mem_pick (n := 5) (mem_pick (n := 7) (mem_pick (n := 7) (mem_pick (n := 7) (mem_pick (n := 7) (M) rfl) rfl) rfl) rfl) rfl) rfl))⟩ | exact ⟨⟨_, _, _, _, _⟩, _, (by refine ⟨?_, ?_, ?_, ?_, ?_, ?_⟩ <;> (dsimp only; (try simp only [List.length_append, List.length_set, List.length_cons, List.length_nil]); omega)), rfl, mem_packT [_, _] (mem_take 6 (mem_pick (n := 5) (mem_pick (n := 5) (mem_pick (n := 7) (mem_pick (n := 7) (mem_pick (n := 7) (mem_pick (n := 7) (M) rfl) rfl) rfl) rfl) rfl) rfl))⟩
 try simp only [sA] at hc4
 refine gc_sr fun K277 hK277 => ?_
 refine gv (qt_eql rfl rfl rfl) ?_
 refine gas ?_
 refine gnt (hK277 _ _ ?_)
 refine gc_cond rfl (fun hc10 => ?_) (fun hc10 => ?_)
 ·try simp only [sA] at hc10
  refine gc_skip ?_
  refine gk_then (hK44 _ _ ?_)
  refine gc_cond rfl (fun hc11 => ?_) (fun hc11 => ?_)
  ·try simp only [sA] at hc11
   refine gc_sr fun K278 hK278 => ?_
   refine gm ?_
   refine gv (qt_gtr rfl rfl rfl) ?_
   refine g_splitv (.free rfl) rfl rfl (qt_move rfl rfl) (fun hs17_2 => ?_) (fun hs17_2 => ?_)
   ·try simp only [sA] at hs17_2
    refine gvh (qtf underlying27 (z := 0) (off := 4)) ?_
    refine gvh (qtl underlying25 (n := 2)) ?_
    refine gvh (qt_move rfl rfl) ?_
    refine gvh (qti2 (fun w M => lenA_U (n := 7) rfl M)) ?_
    refine gvh (qt_loadU (n := 7) rfl rfl underlying24 rfl rfl (by omega) (by omega)) ?_
    refine gvh (qt_len rfl rfl ulE1 (fun w M => lenV_row (n := 7) rfl (by omega) (by omega) M)) ?_
    refine gvh (qt_gtr rfl rfl rfl) ?_
    refine gv (qt_pick_t rfl rfl rfl) ?_
    refine gnt (hK278 _ _ ?_)
    refine gc_cond rfl (fun hc12 => ?_) (fun hc12 => ?_)
    ·try simp only [sA] at hc12
     have hrl : (row2 c.m (r12 : Int)).length = c.s.length := by rw [row2_of, Int.toNat_natCast]; exact hS.rl _ (by omega)
     try simp only [sL]
     refine gc_cut ([(0, _), (1, _), (3, _), (4, _), (5, _), (6, _), (23, _), (45, _), (54, _), (61, _), (74, _), (88, _)] : Env) (fun s : Int × Int => (fun (y : Int) (z : Int) => ([] : Env)) s.1 s.2) (fun s : Int × Int => (fun (y : Int) (z : Int) => ([(7, own2U (.slice cg7 c.m.length ch7) cu7 (c.m.set (r12 : Int).toNat ((row2 c.m (r12 : Int)).set y.toNat z)))] : List (Nat × Itm))) s.1 s.2) (fun s : Int × Int => (fun (y : Int) (z : Int) => ([] : List Itm)) s.1 s.2) (by repeat first | exact sub_nil | refine sub_cons rfl ?_) ?_ (fun HJ279 => ?_)
     ·rintro ⟨y, z⟩
      simp only [sU, sL]
      refine gk_block ?_
      refine gk_then (hK14 _ _ ?_)
      refine gc_sr fun K280 hK280 => ?_
      refine gv (qts underlying27 (n := 2)) ?_
      refine gop fun K281 hK281 => ?_
      refine gss 3 ?_
      refine hK281 _ _ ?_
      refine gnt (hK280 _ _ ?_)
      refine gc_ret ?_
      refine ret_S (n := 3) rfl rfl underlying27 rfl (by kernel_rfl) rfl (fun w M => ?_)
      first | exact ⟨⟨_, _, _, _, _⟩, _, (by refine ⟨?_, ?_, ?_, ?_, ?_, ?_⟩ <;> (dsimp only; (try simp only [List.length_append, List.length_set, List.length_cons, List.length_nil]); omega)), rfl, mem_packH [_, _] (mem_take 6 (mem_pick (n := 5) (mem_pick (n := 5) (mem_pick (n := 7) (mem_pick (n := 7) (mem_pick (n := 7) (mem_pick (n := 7) (M) rfl) rfl) rfl) rfl) rfl) rfl))⟩ | exact ⟨⟨_, _, _, _, _⟩, _, (by refine ⟨?_, ?_, ?_, ?_, ?_, ?_⟩ <;> (dsimp only; (try simp only [List.length_append, List.length_set, List.length_cons, List.length_nil]); omega)), rfl, mem_packT [_, _] (mem_take 6 (mem_pick (n := 5) (mem_pick (n := 5) (mem_pick (n := 7) (mem_pick (n := 7) (mem_pick (n := 7) (mem_pick (n := 7) (M) rfl) rfl) rfl) rfl) rfl) rfl))⟩
     simp only [sU, sL] at HJ279
     refine ga_start _ (fun w M => mem_erase 0 (mem_erase 7 (M))) ?_
     refine gav 0 rfl (qtf underlying27 (z := 0) (off := 4)) ?_
     refine gav 1 rfl (qtl underlying25 (n := 1)) ?_
     refine gav 2 rfl (qt_move rfl rfl) ?_
     refine gav 5 rfl (qt_move rfl rfl) ?_
     refine gav 6 rfl (qtf underlying27 (z := 0) (off := 4)) ?_
     refine gav 7 rfl (qtl underlying25 (n := 1)) ?_
     refine gav 8 rfl (qt_move rfl rfl) ?_
     refine gav 13 rfl (qt_move rfl rfl) ?_
     refine gav 14 rfl (qt_move rfl rfl) ?_
     refine gav 15 rfl (qt_add rfl rfl rfl (by omega)) ?_
     refine gat 3 9 (fun K282 hK282 => ?_) (fun K282 hK282 => ?_)
     ·refine gov (qti2 (fun w M => lenA_U (n := 7) rfl M)) ?_
      refine hK282 _ _ (fun w M => (ms0 0 7 8 M :)) ?_
      refine gat 4 9 (fun K284 hK284 => ?_) (fun K284 hK284 => ?_)
      ·refine gov (qt_loadU (n := 7) rfl rfl underlying24 rfl rfl (by omega) (by omega)) ?_
       refine hK284 _ _ (fun w M => (ms0 0 7 8 M :)) ?_
       refine gao 9 fun K286 hK286 => ?_
       refine gov (qti2 (fun w M => lenA_U (n := 7) rfl M)) ?_
       refine hK286 _ _ (fun w M => (ms0 0 7 8 M :)) ?_
       refine gao 10 fun K287 hK287 => ?_
       refine gov (qt_loadU (n := 7) rfl rfl underlying24 rfl rfl (by omega) (by omega)) ?_
       refine hK287 _ _ (fun w M => (ms0 0 7 8 M :)) ?_
       refine gao 11 fun K288 hK288 => ?_
       refine gov (qt_len rfl rfl ulE1 (fun w M => lenV_row (n := 7) rfl (by omega) (by omega) M)) ?_
       refine hK288 _ _ (fun w M => (ms0 0 7 8 M :)) ?_
       refine gao 12 fun K290 hK290 => ?_
       refine go_srcNext (n := 0) rfl rfl rfl func51 rfl (by decide) rfl hI rfl (by omega) ?_
       intro r289 hs289
       refine hK290 _ _ (fun w M => (ms0 0 7 8 M :)) ?_
       refine gao 16 fun K292 hK292 => ?_
       refine go_srcNext (n := 0) rfl rfl rfl func51 rfl (by decide) rfl hI rfl (by omega) ?_
       intro r291 hs291
       refine hK292 _ _ (fun w M => (ms0 0 7 8 M :)) ?_
       refine gav 17 rfl (qt_sub rfl rfl rfl (by omega)) ?_
       refine gao 18 fun K293 hK293 => ?_
       refine gov (qt_index rfl rfl rfl ulE1 szE1 (fun w M => lenA_row (n := 7) rfl (by omega) (by omega) M) (by omega) (by omega)) ?_
       refine hK293 _ _ (fun w M => (ms0 0 7 8 M :)) ?_
       refine gao 19 fun K294 hK294 => ?_
       refine go_storeU (n := 7) rfl rfl rfl rfl (by kernel_rfl) rfl (by omega) (by omega) (by omega) (by omega) ?_
       refine hK294 _ _ (fun w M => (ms0 0 7 8 M :)) ?_
       refine ga_done (by kernel_rfl) ?_
       refine gk_pickL [0, 0, 0, 0, 0, 0, 0, 0] ?_
       refine gk_sub ?hs_295 (HJ279 (_, _))
       case hs_295 => repeat first | exact sub_nil | refine sub_cons rfl ?_
      refine gov (qti2 (fun w M => lenA_U (n := 7) rfl M)) ?_
      refine hK284 _ _ (fun w M => (ms0 0 7 8 M :)) ?_
      refine gat 4 10 (fun K297 hK297 => ?_) (fun K297 hK297 => ?_)
      ·refine gov (qt_loadU (n := 7) rfl rfl underlying24 rfl rfl (by omega) (by omega)) ?_
       refine hK297 _ _ (fun w M => (ms0 0 7 8 M :)) ?_
       refine gao 10 fun K299 hK299 => ?_
       refine gov (qt_loadU (n := 7) rfl rfl underlying24 rfl rfl (by omega) (by omega)) ?_
       refine hK299 _ _ (fun w M => (ms0 0 7 8 M :)) ?_
       refine gao 11 fun K300 hK300 => ?_
       refine gov (qt_len rfl rfl ulE1 (fun w M => lenV_row (n := 7) rfl (by omega) (by omega) M)) ?_
       refine hK300 _ _ (fun w M => (ms0 0 7 8 M :)) ?_
       refine gao 12 fun K302 hK302 => ?_
       refine go_srcNext (n := 0) rfl rfl rfl func51 rfl (by decide) rfl hI rfl (by omega) ?_
       intro r301 hs301
       refine hK302 _ _ (fun w M => (ms0 0 7 8 M :)) ?_
       refine gao 16 fun K304 hK304 => ?_
       refine go_srcNext (n := 0) rfl rfl rfl func51 rfl (by decide) rfl hI rfl (by omega) ?_
       intro r303 hs303
       refine hK304 _ _ (fun w M => (ms0 0 7 8 M :)) ?_
       refine gav 17 rfl (qt_sub rfl rfl rfl (by omega)) ?_
       refine gao 18 fun K305 hK305 => ?_
       refine gov (qt_index rfl rfl rfl ulE1 szE1 (fun w M => lenA_row (n := 7) rfl (by omega) (by omega) M) (by omega) (by omega)) ?_
       refine hK305 _ _ (fun w M => (ms0 0 7 8 M :)) ?_
       refine gao 19 fun K306 hK306 => ?_
       refine go_storeU (n := 7) rfl rfl rfl rfl (by kernel_rfl) rfl (by omega) (by omega) (by omega) (by omega) ?_
       refine hK306 _ _ (fun w M => (ms0 0 7 8 M :)) ?_
       refine ga_done (by kernel_rfl) ?_
       refine gk_pickL [0, 0, 0, 0, 0, 0, 0, 0] ?_
       refine gk_sub ?hs_307 (HJ279 (_, _))
       case hs_307 => repeat first | exact sub_nil | refine sub_cons rfl ?_
      refine gov (qt_loadU (n := 7) rfl rfl underlying24 rfl rfl (by omega) (by omega)) ?_
      refine hK297 _ _ (fun w M => (ms0 0 7 8 M :)) ?_
      refine gat 4 11 (fun K309 hK309 => ?_) (fun K309 hK309 => ?_)
      ·refine gov (qt_loadU (n := 7) rfl rfl underlying24 rfl rfl (by omega) (by omega)) ?_
       refine hK309 _ _ (fun w M => (ms0 0 7 8 M :)) ?_
       refine gao 11 fun K311 hK311 => ?_
       refine gov (qt_len rfl rfl ulE1 (fun w M => lenV_row (n := 7) rfl (by omega) (by omega) M)) ?_
       refine hK311 _ _ (fun w M => (ms0 0 7 8 M :)) ?_
       refine gao 12 fun K313 hK313 => ?_
       refine go_srcNext (n := 0) rfl rfl rfl func51 rfl (by decide) rfl hI rfl (by omega) ?_
       intro r312 hs312
       refine hK313 _ _ (fun w M => (ms0 0 7 8 M :)) ?_
       refine gao 16 fun K315 hK315 => ?_
       refine go_srcNext (n := 0) rfl rfl rfl func51 rfl (by decide) rfl hI rfl (by omega) ?_
       intro r314 hs314
       refine hK315 _ _ (fun w M => (ms0 0 7 8 M :)) ?_
       refine gav 17 rfl (qt_sub rfl rfl rfl (by omega)) ?_
       refine gao 18 fun K316 hK316 => ?_
       refine gov (qt_index rfl rfl rfl ulE1 szE1 (fun w M => lenA_row (n := 7) rfl (by omega) (by omega) M) (by omega) (by omega)) ?_
       refine hK316 _ _ (fun w M => (ms0 0 7 8 M :)) ?_
       refine gao 19 fun K317 hK317 => ?_
       refine go_storeU (n := 7) rfl rfl rfl rfl (by kernel_rfl) rfl (by omega) (by omega) (by omega) (by omega) ?_
       refine hK317 _ _ (fun w M => (ms0 0 7 8 M :)) ?_
       refine ga_done (by kernel_rfl) ?_
       refine gk_pickL [0, 0, 0, 0, 0, 0, 0, 0] ?_
       refine gk_sub ?hs_318 (HJ279 (_, _))
       case hs_318 => repeat first | exact sub_nil | refine sub_cons rfl ?_
      refine gov (qt_len rfl rfl ulE1 (fun w M => lenV_row (n := 7) rfl (by omega) (by omega) M)) ?_
      refine hK309 _ _ (fun w M => (ms0 0 7 8 M :)) ?_
      refine gat 4 12 (fun K320 hK320 => ?_) (fun K320 hK320 => ?_)
      ·refine gov (qt_loadU (n := 7) rfl rfl underlying24 rfl rfl (by omega) (by omega)) ?_
       refine hK320 _ _ (fun w M => (ms0 0 7 8 M :)) ?_
       refine gao 12 fun K323 hK323 => ?_
       refine go_srcNext (n := 0) rfl rfl rfl func51 rfl (by decide) rfl hI rfl (by omega) ?_
       intro r322 hs322
       refine hK323 _ _ (fun w M => (ms0 0 7 8 M :)) ?_
       refine gao 16 fun K325 hK325 => ?_
       refine go_srcNext (n := 0) rfl rfl rfl func51 rfl (by decide) rfl hI rfl (by omega) ?_
       intro r324 hs324
       refine hK325 _ _ (fun w M => (ms0 0 7 8 M :)) ?_
       refine gav 17 rfl (qt_sub rfl rfl rfl (by omega)) ?_
       refine gao 18 fun K326 hK326 => ?_
       refine gov (qt_index rfl rfl rfl ulE1 szE1 (fun w M => lenA_row (n := 7) rfl (by omega) (by omega) M) (by omega) (by omega)) ?_
       refine hK326 _ _ (fun w M => (ms0 0 7 8 M :)) ?_
       refine gao 19 fun K327 hK327 => ?_
       refine go_storeU (n := 7) rfl rfl rfl rfl (by kernel_rfl) rfl (by omega) (by omega) (by omega) (by omega) ?_
       refine hK327 _ _ (fun w M => (ms0 0 7 8 M :)) ?_
       refine ga_done (by kernel_rfl) ?_
       refine gk_pickL [0, 0, 0, 0, 0, 0, 0, 0] ?_
       refine gk_sub ?hs_328 (HJ279 (_, _))
       case hs_328 => repeat first | exact sub_nil | refine sub_cons rfl ?_
      refine go_srcNext (n := 0) rfl rfl rfl func51 rfl (by decide) rfl hI rfl (by omega) ?_
      intro r329 hs329
      refine hK320 _ _ (fun w M => (ms0 0 7 8 M :)) ?_
      refine gat 4 16 (fun K331 hK331 => ?_) (fun K331 hK331 => ?_)
      ·refine gov (qt_loadU (n := 7) rfl rfl underlying24 rfl rfl (by omega) (by omega)) ?_
       refine hK331 _ _ (fun w M => (ms0 0 7 8 M :)) ?_
       refine gao 16 fun K334 hK334 => ?_
       refine go_srcNext (n := 0) rfl rfl rfl func51 rfl (by decide) rfl hI rfl (by omega) ?_
       intro r333 hs333
       refine hK334 _ _ (fun w M => (ms0 0 7 8 M :)) ?_
       refine gav 17 rfl (qt_sub rfl rfl rfl (by omega)) ?_
       refine gao 18 fun K335 hK335 => ?_
       refine gov (qt_index rfl rfl rfl ulE1 szE1 (fun w M => lenA_row (n := 7) rfl (by omega) (by omega) M) (by omega) (by omega)) ?_
       refine hK335 _ _ (fun w M => (ms0 0 7 8 M :)) ?_
       refine gao 19 fun K336 hK336 => ?_
       refine go_storeU (n := 7) rfl rfl rfl rfl (by kernel_rfl) rfl (by omega) (by omega) (by omega) (by omega) ?_
       refine hK336 _ _ (fun w M => (ms0 0 7 8 M :)) ?_
       refine ga_done (by kernel_rfl) ?_
       refine gk_pickL [0, 0, 0, 0, 0, 0, 0, 0] ?_
       refine gk_sub ?hs_337 (HJ279 (_, _))
       case hs_337 => repeat first | exact sub_nil | refine sub_cons rfl ?_
      refine go_srcNext (n := 0) rfl rfl rfl func51 rfl (by decide) rfl hI rfl (by omega) ?_
      intro r338 hs338
      refine hK331 _ _ (fun w M => (ms0 0 7 8 M :)) ?_
      refine gav 17 rfl (qt_sub rfl rfl rfl (by omega)) ?_
      refine gao 4 fun K340 hK340 => ?_
      refine gov (qt_loadU (n := 7) rfl rfl underlying24 rfl rfl (by omega) (by omega)) ?_
      refine hK340 _ _ (fun w M => (ms0 0 7 8 M :)) ?_
      refine gao 18 fun K341 hK341 => ?_
      refine gov (qt_index rfl rfl rfl ulE1 szE1 (fun w M => lenA_row (n := 7) rfl (by omega) (by omega) M) (by omega) (by omega)) ?_
      refine hK341 _ _ (fun w M => (ms0 0 7 8 M :)) ?_
      refine gao 19 fun K342 hK342 => ?_
      refine go_storeU (n := 7) rfl rfl rfl rfl (by kernel_rfl) rfl (by omega) (by omega) (by omega) (by omega) ?_
      refine hK342 _ _ (fun w M => (ms0 0 7 8 M :)) ?_
      refine ga_done (by kernel_rfl) ?_
      refine gk_pickL [0, 0, 0, 0, 0, 0, 0, 0] ?_
      refine gk_sub ?hs_343 (HJ279 (_, _))
      case hs_343 => repeat first | exact sub_nil | refine sub_cons rfl ?_
     refine gov (qti2 (fun w M => lenA_U (n := 7) rfl M)) ?_
     refine hK282 _ _ (fun w M => (ms0 0 7 8 M :)) ?_
     refine gat 3 10 (fun K345 hK345 => ?_) (fun K345 hK345 => ?_)
     ·refine gov (qti2 (fun w M => lenA_U (n := 7) rfl M)) ?_
      refine hK345 _ _ (fun w M => (ms0 0 7 8 M :)) ?_
      refine gat 4 10 (fun K347 hK347 => ?_) (fun K347 hK347 => ?_)
      ·refine gov (qt_loadU (n := 7) rfl rfl underlying24 rfl rfl (by omega) (by omega)) ?_
       refine hK347 _ _ (fun w M => (ms0 0 7 8 M :)) ?_
       refine gao 10 fun K349 hK349 => ?_
       refine gov (qt_loadU (n := 7) rfl rfl underlying24 rfl rfl (by omega) (by omega)) ?_
       refine hK349 _ _ (fun w M => (ms0 0 7 8 M :)) ?_
       refine gao 11 fun K350 hK350 => ?_
       refine gov (qt_len rfl rfl ulE1 (fun w M => lenV_row (n := 7) rfl (by omega) (by omega) M)) ?_
       refine hK350 _ _ (fun w M => (ms0 0 7 8 M :)) ?_
       refine gao 12 fun K352 hK352 => ?_
       refine go_srcNext (n := 0) rfl rfl rfl func51 rfl (by decide) rfl hI rfl (by omega) ?_
       intro r351 hs351
       refine hK352 _ _ (fun w M => (ms0 0 7 8 M :)) ?_
       refine gao 16 fun K354 hK354 => ?_
       refine go_srcNext (n := 0) rfl rfl rfl func51 rfl (by decide) rfl hI rfl (by omega) ?_
       intro r353 hs353
       refine hK354 _ _ (fun w M => (ms0 0 7 8 M :)) ?_
       refine gav 17 rfl (qt_sub rfl rfl rfl (by omega)) ?_
       refine gao 18 fun K355 hK355 => ?_
       refine gov (qt_index rfl rfl rfl ulE1 szE1 (fun w M => lenA_row (n := 7) rfl (by omega) (by omega) M) (by omega) (by omega)) ?_
       refine hK355 _ _ (fun w M => (ms0 0 7 8 M :)) ?_
       refine gao 19 fun K356 hK356 => ?_
       refine go_storeU (n := 7) rfl rfl rfl rfl (by kernel_rfl) rfl (by omega) (by omega) (by omega) (by omega) ?_
       refine hK356 _ _ (fun w M => (ms0 0 7 8 M :)) ?_
       refine ga_done (by kernel_rfl) ?_
       refine gk_pickL [0, 0, 0, 0, 0, 0, 0, 0] ?_
       refine gk_sub ?hs_357 (HJ279 (_, _))
       case hs_357 => repeat first | exact sub_nil | refine sub_cons rfl ?_
      refine gov (qt_loadU (n := 7) rfl rfl underlying24 rfl rfl (by omega) (by omega)) ?_
      refine hK347 _ _ (fun w M => (ms0 0 7 8 M :)) ?_
      refine gat 4 11 (fun K359 hK359 => ?_) (fun K359 hK359 => ?_)
      ·refine gov (qt_loadU (n := 7) rfl rfl underlying24 rfl rfl (by omega) (by omega)) ?_
       refine hK359 _ _ (fun w M => (ms0 0 7 8 M :)) ?_
       refine gao 11 fun K361 hK361 => ?_
       refine gov (qt_len rfl rfl ulE1 (fun w M => lenV_row (n := 7) rfl (by omega) (by omega) M)) ?_
       refine hK361 _ _ (fun w M => (ms0 0 7 8 M :)) ?_
       refine gao 12 fun K363 hK363 => ?_
       refine go_srcNext (n := 0) rfl rfl rfl func51 rfl (by decide) rfl hI rfl (by omega) ?_
       intro r362 hs362
       refine hK363 _ _ (fun w M => (ms0 0 7 8 M :)) ?_
       refine gao 16 fun K365 hK365 => ?_
       refine go_srcNext (n := 0) rfl rfl rfl func51 rfl (by decide) rfl hI rfl (by omega) ?_
       intro r364 hs364
       refine hK365 _ _ (fun w M => (ms0 0 7 8 M :)) ?_
       refine gav 17 rfl (qt_sub rfl rfl rfl (by omega)) ?_
       refine gao 18 fun K366 hK366 => ?_
       refine gov (qt_index rfl rfl rfl ulE1 szE1 (fun w M => lenA_row (n := 7) rfl (by omega) (by omega) M) (by omega) (by omega)) ?_
       refine hK366 _ _ (fun w M => (ms0 0 7 8 M :)) ?_
       refine gao 19 fun K367 hK367 => ?_
       refine go_storeU (n := 7) rfl rfl rfl rfl (by kernel_rfl) rfl (by omega) (by omega) (by omega) (by omega) ?_
       refine hK367 _ _ (fun w M => (ms0 0 7 8 M :)) ?_
       refine ga_done (by kernel_rfl) ?_
       refine gk_pickL [0, 0, 0, 0, 0, 0, 0, 0] ?_
       refine gk_sub ?hs_368 (HJ279 (_, _))
       case hs_368 => repeat first | exact sub_nil | refine sub_cons rfl ?_
      refine gov (qt_len rfl rfl ulE1 (fun w M => lenV_row (n := 7) rfl (by omega) (by omega) M)) ?_
      refine hK359 _ _ (fun w M => (ms0 0 7 8 M :)) ?_
      refine gat 4 12 (fun K370 hK370 => ?_) (fun K370 hK370 => ?_)
      ·refine gov (qt_loadU (n := 7) rfl rfl underlying24 rfl rfl (by omega) (by omega)) ?_
       refine hK370 _ _ (fun w M => (ms0 0 7 8 M :)) ?_
       refine gao 12 fun K373 hK373 => ?_
       refine go_srcNext (n := 0) rfl rfl rfl func51 rfl (by decide) rfl hI rfl (by omega) ?_
       intro r372 hs372
       refine hK373 _ _ (fun w M => (ms0 0 7 8 M :)) ?_
       refine gao 16 fun K375 hK375 => ?_
       refine go_srcNext (n := 0) rfl rfl rfl func51 rfl (by decide) rfl hI rfl (by omega) ?_
       intro r374 hs374
       refine hK375 _ _ (fun w M => (ms0 0 7 8 M :)) ?_
       refine gav 17 rfl (qt_sub rfl rfl rfl (by omega)) ?_
       refine gao 18 fun K376 hK376 => ?_
       refine gov (qt_index rfl rfl rfl ulE1 szE1 (fun w M => lenA_row (n := 7) rfl (by omega) (by omega) M) (by omega) (by omega)) ?_
       refine hK376 _ _ (fun w M => (ms0 0 7 8 M :)) ?_
       refine gao 19 fun K377 hK377 => ?_
       refine go_storeU (n := 7) rfl rfl rfl rfl (by kernel_rfl) rfl (by omega) (by omega) (by omega) (by omega) ?_
       refine hK377 _ _ (fun w M => (ms0 0 7 8 M :)) ?_
       refine ga_done (by kernel_rfl) ?_
       refine gk_pickL [0, 0, 0, 0, 0, 0, 0, 0] ?_
       refine gk_sub ?hs_378 (HJ279 (_, _))
       case hs_378 => repeat first | exact sub_nil | refine sub_cons rfl ?_
      refine go_srcNext (n := 0) rfl rfl rfl func51 rfl (by decide) rfl hI rfl (by omega) ?_
      intro r379 hs379
      refine hK370 _ _ (fun w M => (ms0 0 7 8 M :)) ?_
      refine gat 4 16 (fun K381 hK381 => ?_) (fun K381 hK381 => ?_)
      ·refine gov (qt_loadU (n := 7) rfl rfl underlying24 rfl rfl (by omega) (by omega)) ?_
       refine hK381 _ _ (fun w M => (ms0 0 7 8 M :)) ?_
       refine gao 16 fun K384 hK384 => ?_
       refine go_srcNext (n := 0) rfl rfl rfl func51 rfl (by decide) rfl hI rfl (by omega) ?_
       intro r383 hs383
       refine hK384 _ _ (fun w M => (ms0 0 7 8 M :)) ?_
       refine gav 17 rfl (qt_sub rfl rfl rfl (by omega)) ?_
       refine gao 18 fun K385 hK385 => ?_
       refine gov (qt_index rfl rfl rfl ulE1 szE1 (fun w M => lenA_row (n := 7) rfl (by omega) (by omega) M) (by omega) (by omega)) ?_
       refine hK385 _ _ (fun w M => (ms0 0 7 8 M :)) ?_
       refine gao 19 fun K386 hK386 => ?_
       refine go_storeU (n := 7) rfl rfl rfl rfl (by kernel_rfl) rfl (by omega) (by omega) (by omega) (by omega) ?_
       refine hK386 _ _ (fun w M => (ms0 0 7 8 M :)) ?_
       refine ga_done (by kernel_rfl) ?_
       refine gk_pickL [0, 0, 0, 0, 0, 0, 0, 0] ?_
       refine gk_sub ?hs_387 (HJ279 (_, _))
       case hs_387 => repeat first | exact sub_nil | refine sub_cons rfl ?_
      refine go_srcNext (n := 0) rfl rfl rfl func51 rfl (by decide) rfl hI rfl (by omega) ?_
      intro r388 hs388
      refine hK381 _ _ (fun w M => (ms0 0 7 8 M :)) ?_
      refine gav 17 rfl (qt_sub rfl rfl rfl (by omega)) ?_
      refine gao 4 fun K390 hK390 => ?_
      refine gov (qt_loadU (n := 7) rfl rfl underlying24 rfl rfl (by omega) (by omega)) ?_
      refine hK390 _ _ (fun w M => (ms0 0 7 8 M :)) ?_
      refine gao 18 fun K391 hK391 => ?_
      refine gov (qt_index rfl rfl rfl ulE1 szE1 (fun w M => lenA_row (n := 7) rfl (by omega) (by omega) M) (by omega) (by omega)) ?_
      refine hK391 _ _ (fun w M => (ms0 0 7 8 M :)) ?_
      refine gao 19 fun K392 hK392 => ?_
      refine go_storeU (n := 7) rfl rfl rfl rfl (by kernel_rfl) rfl (by omega) (by omega) (by omega) (by omega) ?_
      refine hK392 _ _ (fun w M => (ms0 0 7 8 M :)) ?_
      refine ga_done (by kernel_rfl) ?_
      refine gk_pickL [0, 0, 0, 0, 0, 0, 0, 0] ?_
      refine gk_sub ?hs_393 (HJ279 (_, _))
      case hs_393 => repeat first | exact sub_nil | refine sub_cons rfl ?_
     refine gov (qt_loadU (n := 7) rfl rfl underlying24 rfl rfl (by omega) (by omega)) ?_
     refine hK345 _ _ (fun w M => (ms0 0 7 8 M :)) ?_
     refine gat 3 11 (fun K395 hK395 => ?_) (fun K395 hK395 => ?_)
     ·refine gov (qti2 (fun w M => lenA_U (n := 7) rfl M)) ?_
      refine hK395 _ _ (fun w M => (ms0 0 7 8 M :)) ?_
      refine gat 4 11 (fun K397 hK397 => ?_) (fun K397 hK397 => ?_)
      ·refine gov (qt_loadU (n := 7) rfl rfl underlying24 rfl rfl (by omega) (by omega)) ?_
       refine hK397 _ _ (fun w M => (ms0 0 7 8 M :)) ?_
       refine gao 11 fun K399 hK399 => ?_
       refine gov (qt_len rfl rfl ulE1 (fun w M => lenV_row (n := 7) rfl (by omega) (by omega) M)) ?_
       refine hK399 _ _ (fun w M => (ms0 0 7 8 M :)) ?_
       refine gao 12 fun K401 hK401 => ?_
       refine go_srcNext (n := 0) rfl rfl rfl func51 rfl (by decide) rfl hI rfl (by omega) ?_
       intro r400 hs400
       refine hK401 _ _ (fun w M => (ms0 0 7 8 M :)) ?_
       refine gao 16 fun K403 hK403 => ?_
       refine go_srcNext (n := 0) rfl rfl rfl func51 rfl (by decide) rfl hI rfl (by omega) ?_
       intro r402 hs402
       refine hK403 _ _ (fun w M => (ms0 0 7 8 M :)) ?_
       refine gav 17 rfl (qt_sub rfl rfl rfl (by omega)) ?_
       refine gao 18 fun K404 hK404 => ?_
       refine gov (qt_index rfl rfl rfl ulE1 szE1 (fun w M => lenA_row (n := 7) rfl (by omega) (by omega) M) (by omega) (by omega)) ?_
       refine hK404 _ _ (fun w M => (ms0 0 7 8 M :)) ?_
       refine gao 19 fun K405 hK405 => ?_
       refine go_storeU (n := 7) rfl rfl rfl rfl (by kernel_rfl) rfl (by omega) (by omega) (by omega) (by omega) ?_
       refine hK405 _ _ (fun w M => (ms0 0 7 8 M :)) ?_
       refine ga_done (by kernel_rfl) ?_
       refine gk_pickL [0, 0, 0, 0, 0, 0, 0, 0] ?_
       refine gk_sub ?hs_406 (HJ279 (_, _))
       case hs_406 => repeat first | exact sub_nil | refine sub_cons rfl ?_
      refine gov (qt_len rfl rfl ulE1 (fun w M => lenV_row (n := 7) rfl (by omega) (by omega) M)) ?_
      refine hK397 _ _ (fun w M => (ms0 0 7 8 M :)) ?_
      refine gat 4 12 (fun K408 hK408 => ?_) (fun K408 hK408 => ?_)
      ·refine gov (qt_loadU (n := 7) rfl rfl underlying24 rfl rfl (by omega) (by omega)) ?_
       refine hK408 _ _ (fun w M => (ms0 0 7 8 M :)) ?_
       refine gao 12 fun K411 hK411 => ?_
       refine go_srcNext (n := 0) rfl rfl rfl func51 rfl (by decide) rfl hI rfl (by omega) ?_
       intro r410 hs410
       refine hK411 _ _ (fun w M => (ms0 0 7 8 M :)) ?_
       refine gao 16 fun K413 hK413 => ?_
       refine go_srcNext (n := 0) rfl rfl rfl func51 rfl (by decide) rfl hI rfl (by omega) ?_
       intro r412 hs412
       refine hK413 _ _ (fun w M => (ms0 0 7 8 M :)) ?_
       refine gav 17 rfl (qt_sub rfl rfl rfl (by omega)) ?_
       refine gao 18 fun K414 hK414 => ?_
       refine gov (qt_index rfl rfl rfl ulE1 szE1 (fun w M => lenA_row (n := 7) rfl (by omega) (by omega) M) (by omega) (by omega)) ?_
       refine hK414 _ _ (fun w M => (ms0 0 7 8 M :)) ?_
       refine gao 19 fun K415 hK415 => ?_
       refine go_storeU (n := 7) rfl rfl rfl rfl (by kernel_rfl) rfl (by omega) (by omega) (by omega) (by omega) ?_
       refine hK415 _ _ (fun w M => (ms0 0 7 8 M :)) ?_
       refine ga_done (by kernel_rfl) ?_
       refine gk_pickL [0, 0, 0, 0, 0, 0, 0, 0] ?_
       refine gk_sub ?hs_416 (HJ279 (_, _))
       case hs_416 => repeat first | exact sub_nil | refine sub_cons rfl ?_
      refine go_srcNext (n := 0) rfl rfl rfl func51 rfl (by decide) rfl hI rfl (by omega) ?_
      intro r417 hs417
      refine hK408 _ _ (fun w M => (ms0 0 7 8 M :)) ?_
      refine gat 4 16 (fun K419 hK419 => ?_) (fun K419 hK419 => ?_)
      ·refine gov (qt_loadU (n := 7) rfl rfl underlying24 rfl rfl (by omega) (by omega)) ?_
       refine hK419 _ _ (fun w M => (ms0 0 7 8 M :)) ?_
       refine gao 16 fun K422 hK422 => ?_
       refine go_srcNext (n := 0) rfl rfl rfl func51 rfl (by decide) rfl hI rfl (by omega) ?_
       intro r421 hs421
       refine hK422 _ _ (fun w M => (ms0 0 7 8 M :)) ?_
       refine gav 17 rfl (qt_sub rfl rfl rfl (by omega)) ?_
       refine gao 18 fun K423 hK423 => ?_
       refine gov (qt_index rfl rfl rfl ulE1 szE1 (fun w M => lenA_row (n := 7) rfl (by omega) (by omega) M) (by omega) (by omega)) ?_
       refine hK423 _ _ (fun w M => (ms0 0 7 8 M :)) ?_
       refine gao 19 fun K424 hK424 => ?_
       refine go_storeU (n := 7) rfl rfl rfl rfl (by kernel_rfl) rfl (by omega) (by omega) (by omega) (by omega) ?_
       refine hK424 _ _ (fun w M => (ms0 0 7 8 M :)) ?_
       refine ga_done (by kernel_rfl) ?_
       refine gk_pickL [0, 0, 0, 0, 0, 0, 0, 0] ?_
       refine gk_sub ?hs_425 (HJ279 (_, _))
       case hs_425 => repeat first | exact sub_nil | refine sub_cons rfl ?_
      refine go_srcNext (n := 0) rfl rfl rfl func51 rfl (by decide) rfl hI rfl (by omega) ?_
      intro r426 hs426
      refine hK419 _ _ (fun w M => (ms0 0 7 8 M :)) ?_
      refine gav 17 rfl (qt_sub rfl rfl rfl (by omega)) ?_
      refine gao 4 fun K428 hK428 => ?_
      refine gov (qt_loadU (n := 7) rfl rfl underlying24 rfl rfl (by omega) (by omega)) ?_
      refine hK428 _ _ (fun w M => (ms0 0 7 8 M :)) ?_
      refine gao 18 fun K429 hK429 => ?_
      refine gov (qt_index rfl rfl rfl ulE1 szE1 (fun w M => lenA_row (n := 7) rfl (by omega) (by omega) M) (by omega) (by omega)) ?_
      refine hK429 _ _ (fun w M => (ms0 0 7 8 M :)) ?_
      refine gao 19 fun K430 hK430 => ?_
      refine go_storeU (n := 7) rfl rfl rfl rfl (by kernel_rfl) rfl (by omega) (by omega) (by omega) (by omega) ?_
      refine hK430 _ _ (fun w M => (ms0 0 7 8 M :)) ?_
      refine ga_done (by kernel_rfl) ?_
      refine gk_pickL [0, 0, 0, 0, 0, 0, 0, 0] ?_
      refine gk_sub ?hs_431 (HJ279 (_, _))
      case hs_431 => repeat first | exact sub_nil | refine sub_cons rfl ?_
     refine gov (qt_len rfl rfl ulE1 (fun w M => lenV_row (n := 7) rfl (by omega) (by omega) M)) ?_
     refine hK395 _ _ (fun w M => (ms0 0 7 8 M :)) ?_
     refine gat 3 12 (fun K433 hK433 => ?_) (fun K433 hK433 => ?_)
     ·refine gov (qti2 (fun w M => lenA_U (n := 7) rfl M)) ?_
      refine hK433 _ _ (fun w M => (ms0 0 7 8 M :)) ?_
      refine gat 4 12 (fun K435 hK435 => ?_) (fun K435 hK435 => ?_)
      ·refine gov (qt_loadU (n := 7) rfl rfl underlying24 rfl rfl (by omega) (by omega)) ?_
       refine hK435 _ _ (fun w M => (ms0 0 7 8 M :)) ?_
       refine gao 12 fun K438 hK438 => ?_
       refine go_srcNext (n := 0) rfl rfl rfl func51 rfl (by decide) rfl hI rfl (by omega) ?_
       intro r437 hs437
       refine hK438 _ _ (fun w M => (ms0 0 7 8 M :)) ?_
       refine gao 16 fun K440 hK440 => ?_
       refine go_srcNext (n := 0) rfl rfl rfl func51 rfl (by decide) rfl hI rfl (by omega) ?_
       intro r439 hs439
       refine hK440 _ _ (fun w M => (ms0 0 7 8 M :)) ?_
       refine gav 17 rfl (qt_sub rfl rfl rfl (by omega)) ?_
       refine gao 18 fun K441 hK441 => ?_
       refine gov (qt_index rfl rfl rfl ulE1 szE1 (fun w M => lenA_row (n := 7) rfl (by omega) (by omega) M) (by omega) (by omega)) ?_
       refine hK441 _ _ (fun w M => (ms0 0 7 8 M :)) ?_
       refine gao 19 fun K442 hK442 => ?_
       refine go_storeU (n := 7) rfl rfl rfl rfl (by kernel_rfl) rfl (by omega) (by omega) (by omega) (by omega) ?_
       refine hK442 _ _ (fun w M => (ms0 0 7 8 M :)) ?_
       refine ga_done (by kernel_rfl) ?_
       refine gk_pickL [0, 0, 0, 0, 0, 0, 0, 0] ?_
       refine gk_sub ?hs_443 (HJ279 (_, _))
       case hs_443 => repeat first | exact sub_nil | refine sub_cons rfl ?_
      refine go_srcNext (n := 0) rfl rfl rfl func51 rfl (by decide) rfl hI rfl (by omega) ?_
      intro r444 hs444
      refine hK435 _ _ (fun w M => (ms0 0 7 8 M :)) ?_
      refine gat 4 16 (fun K446 hK446 => ?_) (fun K446 hK446 => ?_)
      ·refine gov (qt_loadU (n := 7) rfl rfl underlying24 rfl rfl (by omega) (by omega)) ?_
       refine hK446 _ _ (fun w M => (ms0 0 7 8 M :)) ?_
       refine gao 16 fun K449 hK449 => ?_
       refine go_srcNext (n := 0) rfl rfl rfl func51 rfl (by decide) rfl hI rfl (by omega) ?_
       intro r448 hs448
       refine hK449 _ _ (fun w M => (ms0 0 7 8 M :)) ?_
       refine gav 17 rfl (qt_sub rfl rfl rfl (by omega)) ?_
       refine gao 18 fun K450 hK450 => ?_
       refine gov (qt_index rfl rfl rfl ulE1 szE1 (fun w M => lenA_row (n := 7) rfl (by omega) (by omega) M) (by omega) (by omega)) ?_
       refine hK450 _ _ (fun w M => (ms0 0 7 8 M :)) ?_
       refine gao 19 fun K451 hK451 => ?_
       refine go_storeU (n := 7) rfl rfl rfl rfl (by kernel_rfl) rfl (by omega) (by omega) (by omega) (by omega) ?_
       refine hK451 _ _ (fun w M => (ms0 0 7 8 M :)) ?_
       refine ga_done (by kernel_rfl) ?_
       refine gk_pickL [0, 0, 0, 0, 0, 0, 0, 0] ?_
       refine gk_sub ?hs_452 (HJ279 (_, _))
       case hs_452 => repeat first | exact sub_nil | refine sub_cons rfl ?_
      refine go_srcNext (n := 0) rfl rfl rfl func51 rfl (by decide) rfl hI rfl (by omega) ?_
      intro r453 hs453
      refine hK446 _ _ (fun w M => (ms0 0 7 8 M :)) ?_
      refine gav 17 rfl (qt_sub rfl rfl rfl (by omega)) ?_
      refine gao 4 fun K455 hK455 => ?_
      refine gov (qt_loadU (n := 7) rfl rfl underlying24 rfl rfl (by omega) (by omega)) ?_
      refine hK455 _ _ (fun w M => (ms0 0 7 8 M :)) ?_
      refine gao 18 fun K456 hK456 => ?_
      refine gov (qt_index rfl rfl rfl ulE1 szE1 (fun w M => lenA_row (n := 7) rfl (by omega) (by omega) M) (by omega) (by omega)) ?_
      refine hK456 _ _ (fun w M => (ms0 0 7 8 M :)) ?_
      refine gao 19 fun K457 hK457 => ?_
      refine go_storeU (n := 7) rfl rfl rfl rfl (by kernel_rfl) rfl (by omega) (by omega) (by omega) (by omega) ?_
      refine hK457 _ _ (fun w M => (ms0 0 7 8 M :)) ?_
      refine ga_done (by kernel_rfl) ?_
      refine gk_pickL [0, 0, 0, 0, 0, 0, 0, 0] ?_
      refine gk_sub ?hs_458 (HJ279 (_, _))
      case hs_458 => repeat first | exact sub_nil | refine sub_cons rfl ?_
     refine go_srcNext (n := 0) rfl rfl rfl func51 rfl (by decide) rfl hI rfl (by omega) ?_
     intro r459 hs459
     refine hK433 _ _ (fun w M => (ms0 0 7 8 M :)) ?_
     refine gat 3 16 (fun K461 hK461 => ?_) (fun K461 hK461 => ?_)
     ·refine gov (qti2 (fun w M => lenA_U (n := 7) rfl M)) ?_
      refine hK461 _ _ (fun w M => (ms0 0 7 8 M :)) ?_
      refine gat 4 16 (fun K463 hK463 => ?_) (fun K463 hK463 => ?_)
      ·refine gov (qt_loadU (n := 7) rfl rfl underlying24 rfl rfl (by omega) (by omega)) ?_
       refine hK463 _ _ (fun w M => (ms0 0 7 8 M :)) ?_
       refine gao 16 fun K466 hK466 => ?_
       refine go_srcNext (n := 0) rfl rfl rfl func51 rfl (by decide) rfl hI rfl (by omega) ?_
       intro r465 hs465
       refine hK466 _ _ (fun w M => (ms0 0 7 8 M :)) ?_
       refine gav 17 rfl (qt_sub rfl rfl rfl (by omega)) ?_
       refine gao 18 fun K467 hK467 => ?_
       refine gov (qt_index rfl rfl rfl ulE1 szE1 (fun w M => lenA_row (n := 7) rfl (by omega) (by omega) M) (by omega) (by omega)) ?_
       refine hK467 _ _ (fun w M => (ms0 0 7 8 M :)) ?_
       refine gao 19 fun K468 hK468 => ?_
       refine go_storeU (n := 7) rfl rfl rfl rfl (by kernel_rfl) rfl (by omega) (by omega) (by omega) (by omega) ?_
       refine hK468 _ _ (fun w M => (ms0 0 7 8 M :)) ?_
       refine ga_done (by kernel_rfl) ?_
       refine gk_pickL [0, 0, 0, 0, 0, 0, 0, 0] ?_
       refine gk_sub ?hs_469 (HJ279 (_, _))
       case hs_469 => repeat first | exact sub_nil | refine sub_cons rfl ?_
      refine go_srcNext (n := 0) rfl rfl rfl func51 rfl (by decide) rfl hI rfl (by omega) ?_
      intro r470 hs470
      refine hK463 _ _ (fun w M => (ms0 0 7 8 M :)) ?_
      refine gav 17 rfl (qt_sub rfl rfl rfl (by omega)) ?_
      refine gao 4 fun K472 hK472 => ?_
      refine gov (qt_loadU (n := 7) rfl rfl underlying24 rfl rfl (by omega) (by omega)) ?_
      refine hK472 _ _ (fun w M => (ms0 0 7 8 M :)) ?_
      refine gao 18 fun K473 hK473 => ?_
      refine gov (qt_index rfl rfl rfl ulE1 szE1 (fun w M => lenA_row (n := 7) rfl (by omega) (by omega) M) (by omega) (by omega)) ?_
      refine hK473 _ _ (fun w M => (ms0 0 7 8 M :)) ?_
      refine gao 19 fun K474 hK474 => ?_
      refine go_storeU (n := 7) rfl rfl rfl rfl (by kernel_rfl) rfl (by omega) (by omega) (by omega) (by omega) ?_
      refine hK474 _ _ (fun w M => (ms0 0 7 8 M :)) ?_
      refine ga_done (by kernel_rfl) ?_
      refine gk_pickL [0, 0, 0, 0, 0, 0, 0, 0] ?_
      refine gk_sub ?hs_475 (HJ279 (_, _))
      case hs_475 => repeat first | exact sub_nil | refine sub_cons rfl ?_
     refine go_srcNext (n := 0) rfl rfl rfl func51 rfl (by decide) rfl hI rfl (by omega) ?_
     intro r476 hs476
     refine hK461 _ _ (fun w M => (ms0 0 7 8 M :)) ?_
     refine gav 17 rfl (qt_sub rfl rfl rfl (by omega)) ?_
     refine gao 3 fun K478 hK478 => ?_
     refine gov (qti2 (fun w M => lenA_U (n := 7) rfl M)) ?_
     refine hK478 _ _ (fun w M => (ms0 0 7 8 M :)) ?_
     refine gao 4 fun K479 hK479 => ?_
     refine gov (qt_loadU (n := 7) rfl rfl underlying24 rfl rfl (by omega) (by omega)) ?_
     refine hK479 _ _ (fun w M => (ms0 0 7 8 M :)) ?_
     refine gao 18 fun K480 hK480 => ?_
     refine gov (qt_index rfl rfl rfl ulE1 szE1 (fun w M => lenA_row (n := 7) rfl (by omega) (by omega) M) (by omega) (by omega)) ?_
     refine hK480 _ _ (fun w M => (ms0 0 7 8 M :)) ?_
     refine gao 19 fun K481 hK481 => ?_
     refine go_storeU (n := 7) rfl rfl rfl rfl (by kernel_rfl) rfl (by omega) (by omega) (by omega) (by omega) ?_
     refine hK481 _ _ (fun w M => (ms0 0 7 8 M :)) ?_
     refine ga_done (by kernel_rfl) ?_
     refine gk_pickL [0, 0, 0, 0, 0, 0, 0, 0] ?_
     refine gk_sub ?hs_482 (HJ279 (_, _))
     case hs_482 => repeat first | exact sub_nil | refine sub_cons rfl ?_
    try simp only [sA] at hc12
    refine gc_skip ?_
    refine gk_block ?_
    refine gk_then (hK14 _ _ ?_)
    refine gc_sr fun K483 hK483 => ?_
    refine gv (qts underlying27 (n := 2)) ?_
    refine gop fun K484 hK484 => ?_
    refine gss 3 ?_
    refine hK484 _ _ ?_
    refine gnt (hK483 _ _ ?_)
    refine gc_ret ?_
    refine ret_S (n := 3) rfl rfl underlying27 rfl (by kernel_rfl) rfl (fun w M => ?_)
    first | exact ⟨⟨_, _, _, _, _⟩, _, (by refine ⟨?_, ?_, ?_, ?_, ?_, ?_⟩ <;> (dsimp only; (try simp only [List.length_append, List.length_set, List.length_cons, List.length_nil]); omega)), rfl, mem_packH [_, _] (mem_take 6 (mem_pick (n := 5) (mem_pick (n := 5) (mem_pick (n := 7) (mem_pick (n := 7) (mem_pick (n := 7) (mem_pick (n := 7) (M) rfl) rfl) rfl) rfl) rfl) rfl))⟩ | exact ⟨⟨_, _, _, _, _⟩, _, (by refine ⟨?_, ?_, ?_, ?_, ?_, ?_⟩ <;> (dsimp only; (try simp only [List.length_append, List.length_set, List.length_cons, List.length_nil]); omega)), rfl, mem_packT [_, _] (mem_take 6 (mem_pick (n := 5) (mem_pick (n := 5) (mem_pick (n := 7) (mem_pick (n := 7) (mem_pick (n := 7) (mem_pick (n := 7) (M) rfl) rfl) rfl) rfl) rfl) rfl))⟩
   try simp only [sA] at hs17_2
   refine gsk ?_
   refine gsk ?_
   refine gsk ?_
   refine gsk ?_
   refine gsk ?_
   refine gsk ?_
   refine gsk ?_
   refine gv (qt_pick_f rfl rfl rfl) ?_
   refine gnt (hK278 _ _ ?_)
   refine gc_cond_f rfl ?_
   refine gc_skip ?_
   refine gk_block ?_
   refine gk_then (hK14 _ _ ?_)
   refine gc_sr fun K485 hK485 => ?_
   refine gv (qts underlying27 (n := 2)) ?_
   refine gop fun K486 hK486 => ?_
   refine gss 3 ?_
   refine hK486 _ _ ?_
   refine gnt (hK485 _ _ ?_)
   refine gc_ret ?_
   refine ret_S (n := 3) rfl rfl underlying27 rfl (by kernel_rfl) rfl (fun w M => ?_)
   first | exact ⟨⟨_, _, _, _, _⟩, _, (by refine ⟨?_, ?_, ?_, ?_, ?_, ?_⟩ <;> (dsimp only; (try simp only [List.length_append, List.length_set, List.length_cons, List.length_nil]); omega)), rfl, mem_packH [_, _] (mem_take 6 (mem_pick (n := 5) (mem_pick (n := 5) (mem_pick (n := 7) (mem_pick (n := 7) (mem_pick (n := 7) (mem_pick (n := 7) (M) rfl) rfl) rfl) rfl) rfl) rfl))⟩ | exact ⟨⟨_, _, _, _, _⟩, _, (by refine ⟨?_, ?_, ?_, ?_, ?_, ?_⟩ <;> (dsimp only; (try simp only [List.length_append, List.length_set, List.length_cons, List.length_nil]); omega)), rfl, mem_packT [_, _] (mem_take 6 (mem_pick (n := 5) (mem_pick (n := 5) (mem_pick (n := 7) (mem_pick (n := 7) (mem_pick (n := 7) (mem_pick (n := 7) (M) rfl) rfl) rfl) rfl) rfl) rfl))⟩
  try simp only [sA] at hc11
  refine gc_sr fun K487 hK487 => ?_
  refine gv (qt_eql rfl rfl rfl) ?_
  refine gas ?_
  refine gnt (hK487 _ _ ?_)
  refine gc_cond rfl (fun hc13 => ?_) (fun hc13 => ?_)
  ·try simp only [sA] at hc13
   refine gc_sr fun K488 hK488 => ?_
   refine gm ?_
   refine gv (qt_gtr rfl rfl rfl) ?_
   refine gnt (hK488 _ _ ?_)
   refine gc_cond rfl (fun hc14 => ?_) (fun hc14 => ?_)
   ·try simp only [sA] at hc14
    try simp only [sL]
    refine ga_start _ (fun w M => mem_erase 0 (mem_erase 5 (M))) ?_
    refine gav 0 rfl (qtf underlying27 (z := 0) (off := 2)) ?_
    refine gav 1 rfl (qtl underlying24 (n := 1)) ?_
    refine gav 2 rfl (qt_move rfl rfl) ?_
    refine gav 3 rfl (qt_move rfl rfl) ?_
    refine gav 4 rfl (qtf underlying27 (z := 0) (off := 0)) ?_
    refine gav 5 rfl (qtl underlying2 (n := 1)) ?_
    refine gav 6 rfl (qt_add rfl rfl rfl (by omega)) ?_
    refine gao 7 fun K490 hK490 => ?_
    refine go_srcNext (n := 0) rfl rfl rfl func51 rfl (by decide) rfl hI rfl (by omega) ?_
    intro r489 hs489
    refine hK490 _ _ (fun w M => (ms0 0 5 8 M :)) ?_
    refine gao 8 fun K491 hK491 => ?_
    refine gov (qti (fun w M => lenA_own1 (n := 5) rfl M)) ?_
    refine hK491 _ _ (fun w M => (ms0 0 5 8 M :)) ?_
    refine gao 9 fun K492 hK492 => ?_
    refine go_store1 (n := 5) rfl rfl rfl rfl (by kernel_rfl) rfl (by omega) (by omega) ?_
    refine hK492 _ _ (fun w M => (ms0 0 5 8 M :)) ?_
    refine ga_done (by kernel_rfl) ?_
    refine gk_block ?_
    refine gk_then (hK14 _ _ ?_)
    refine gc_sr fun K493 hK493 => ?_
    refine gv (qts underlying27 (n := 2)) ?_
    refine gop fun K494 hK494 => ?_
    refine gss 3 ?_
    refine hK494 _ _ ?_
    refine gnt (hK493 _ _ ?_)
    refine gc_ret ?_
    refine ret_S (n := 3) rfl rfl underlying27 rfl (by kernel_rfl) rfl (fun w M => ?_)
    first | exact ⟨⟨_, _, _, _, _⟩, _, (by refine ⟨?_, ?_, ?_, ?_, ?_, ?_⟩ <;> (dsimp only; (try simp only [List.length_append, List.length_set, List.length_cons, List.length_nil]); omega)), rfl, mem_packH [_, _] (mem_take 6 (mem_pick (n := 5) (mem_pick (n := 5) (mem_pick (n := 7) (mem_pick (n := 7) (mem_pick (n := 7) (mem_pick (n := 7) (M) rfl) rfl) rfl) rfl) rfl) rfl))⟩ | exact ⟨⟨_, _, _, _, _⟩, _, (by refine ⟨?_, ?_, ?_, ?_, ?_, ?_⟩ <;> (dsimp only; (try simp only [List.length_append, List.length_set, List.length_cons, List.length_nil]); omega)), rfl, mem_packT [_, _] (mem_take 6 (mem_pick (n := 5) (mem_pick (n := 5) (mem_pick (n := 7) (mem_pick (n := 7) (mem_pick (n := 7) (mem_pick (n := 7) (M) rfl) rfl) rfl) rfl) rfl) rfl))⟩
   try simp only [sA] at hc14
   refine gc_skip ?_
   refine gk_block ?_
   refine gk_then (hK14 _ _ ?_)
   refine gc_sr fun K495 hK495 => ?_
   refine gv (qts underlying27 (n := 2)) ?_
   refine gop fun K496 hK496 => ?_
   refine gss 3 ?_
   refine hK496 _ _ ?_
   refine gnt (hK495 _ _ ?_)
   refine gc_ret ?_
   refine ret_S (n := 3) rfl rfl underlying27 rfl (by kernel_rfl) rfl (fun w M => ?_)
   first | exact ⟨⟨_, _, _, _, _⟩, _, (by refine ⟨?_, ?_, ?_, ?_, ?_, ?_⟩ <;> (dsimp only; (try simp only [List.length_append, List.length_set, List.length_cons, List.length_nil]); omega)), rfl, mem_packH [_, _] (mem_take 6 (mem_pick (n := 5) (mem_pick (n := 5) (mem_pick (n := 7) (mem_pick (n := 7) (mem_pick (n := 7) (mem_pick (n := 7) (M) rfl) rfl) rfl) rfl) rfl) rfl))⟩ | exact ⟨⟨_, _, _, _, _⟩, _, (by refine ⟨?_, ?_, ?_, ?_, ?_, ?_⟩ <;> (dsimp only; (try simp only [List.length_append, List.length_set, List.length_cons, List.length_nil]); omega)), rfl, mem_packT [_, _] (mem_take 6 (mem_pick (n := 5) (mem_pick (n := 5) (mem_pick (n := 7) (mem_pick (n := 7) (mem_pick (n := 7) (mem_pick (n := 7) (M) rfl) rfl) rfl) rfl) rfl) rfl))⟩
  try simp only [sA] at hc13
  refine gc_sr fun K497 hK497 => ?_
  refine gm ?_
  refine gv (qt_gtr rfl rfl rfl) ?_
  refine g_splitv (.free rfl) rfl rfl (qt_move rfl rfl) (fun hs5_2 => ?_) (fun hs5_2 => ?_)
  ·try simp only [sA] at hs5_2
   refine gvh (qtf underlying27 (z := 0) (off := 4)) ?_
   refine gvh (qtl underlying25 (n := 2)) ?_
   refine gvh (qt_move rfl rfl) ?_
   refine gvh (qti2 (fun w M => lenA_U (n := 7) rfl M)) ?_
   refine gvh (qt_loadU (n := 7) rfl rfl underlying24 rfl rfl (by omega) (by omega)) ?_
   refine gvh (qt_len rfl rfl ulE1 (fun w M => lenV_row (n := 7) rfl (by omega) (by omega) M)) ?_
   refine gvh (qt_gtr rfl rfl rfl) ?_
   refine gv (qt_pick_t rfl rfl rfl) ?_
   refine gnt (hK497 _ _ ?_)
   refine gc_cond rfl (fun hc15 => ?_) (fun hc15 => ?_)
   ·try simp only [sA] at hc15
    try simp only [sL]
    refine ga_start _ (fun w M => mem_erase 7 (M)) ?_
    refine gav 0 rfl (qtf underlying27 (z := 0) (off := 4)) ?_
    refine gav 1 rfl (qtl underlying25 (n := 2)) ?_
    refine gav 2 rfl (qt_move rfl rfl) ?_
    refine gav 3 rfl (qtf underlying27 (z := 0) (off := 4)) ?_
    refine gav 4 rfl (qtl underlying25 (n := 2)) ?_
    refine gav 5 rfl (qt_move rfl rfl) ?_
    refine gao 6 fun K498 hK498 => ?_
    refine gov (qti2 (fun w M => lenA_U (n := 7) rfl M)) ?_
    refine hK498 _ _ (fun w M => (ms1 7 8 M :)) ?_
    refine gao 7 fun K499 hK499 => ?_
    refine gov (qt_loadU (n := 7) rfl rfl underlying24 rfl rfl (by omega) (by omega)) ?_
    refine hK499 _ _ (fun w M => (ms1 7 8 M :)) ?_
    refine gao 8 fun K500 hK500 => ?_
    refine gov (qt_tail rfl rfl underlying24 (fun w M => mem_rowU (n := 7) M rfl (by omega) (by omega)) (by omega)) ?_
    refine hK500 _ _ (fun w M => (ms1 7 8 M :)) ?_
    refine gao 9 fun K501 hK501 => ?_
    refine gov (qti2 (fun w M => lenA_U (n := 7) rfl M)) ?_
    refine hK501 _ _ (fun w M => (ms1 7 8 M :)) ?_
    refine gao 10 fun K502 hK502 => ?_
    refine go_storeTail (n := 7) rfl rfl rfl rfl (by kernel_rfl) rfl (by omega) (by omega) (by omega) ?_
    refine hK502 _ _ (fun w M => (ms1 7 8 M :)) ?_
    refine ga_done (by kernel_rfl) ?_
    refine gk_block ?_
    refine gk_then (hK14 _ _ ?_)
    refine gc_sr fun K503 hK503 => ?_
    refine gv (qts underlying27 (n := 2)) ?_
    refine gop fun K504 hK504 => ?_
    refine gss 3 ?_
    refine hK504 _ _ ?_
    refine gnt (hK503 _ _ ?_)
    refine gc_ret ?_
    refine ret_S (n := 3) rfl rfl underlying27 rfl (by kernel_rfl) rfl (fun w M => ?_)
    first | exact ⟨⟨_, _, _, _, _⟩, _, (by refine ⟨?_, ?_, ?_, ?_, ?_, ?_⟩ <;> (dsimp only; (try simp only [List.length_append, List.length_set, List.length_cons, List.length_nil]); omega)), rfl, mem_packH [_, _] (mem_take 6 (mem_pick (n := 5) (mem_pick (n := 5) (mem_pick (n := 7) (mem_pick (n := 7) (mem_pick (n := 7) (mem_pick (n := 7) (M) rfl) rfl) rfl) rfl) rfl) rfl))⟩ | exact ⟨⟨_, _, _, _, _⟩, _, (by refine ⟨?_, ?_, ?_, ?_, ?_, ?_⟩ <;> (dsimp only; (try simp only [List.length_append, List.length_set, List.length_cons, List.length_nil]); omega)), rfl, mem_packT [_, _] (mem_take 6 (mem_pick (n := 5) (mem_pick (n := 5) (mem_pick (n := 7) (mem_pick (n := 7) (mem_pick (n := 7) (mem_pick (n := 7) (M) rfl) rfl) rfl) rfl) rfl) rfl))⟩
   try simp only [sA] at hc15
   refine gc_skip ?_
   refine gk_block ?_
   refine gk_then (hK14 _ _ ?_)
   refine gc_sr fun K505 hK505 => ?_
   refine gv (qts underlying27 (n := 2)) ?_
   refine gop fun K506 hK506 => ?_
   refine gss 3 ?_
   refine hK506 _ _ ?_
   refine gnt (hK505 _ _ ?_)
   refine gc_ret ?_
   refine ret_S (n := 3) rfl rfl underlying27 rfl (by kernel_rfl) rfl (fun w M => ?_)
   first | exact ⟨⟨_, _, _, _, _⟩, _, (by refine ⟨?_, ?_, ?_, ?_, ?_, ?_⟩ <;> (dsimp only; (try simp only [List.length_append, List.length_set, List.length_cons, List.length_nil]); omega)), rfl, mem_packH [_, _] (mem_take 6 (mem_pick (n := 5) (mem_pick (n := 5) (mem_pick (n := 7) (mem_pick (n := 7) (mem_pick (n := 7) (mem_pick (n := 7) (M) rfl) rfl) rfl) rfl) rfl) rfl))⟩ | exact ⟨⟨_, _, _, _, _⟩, _, (by refine ⟨?_, ?_, ?_, ?_, ?_, ?_⟩ <;> (dsimp only; (try simp only [List.length_append, List.length_set, List.length_cons, List.length_nil]); omega)), rfl, mem_packT [_, _] (mem_take 6 (mem_pick (n := 5) (mem_pick (n := 5) (mem_pick (n := 7) (mem_pick (n := 7) (mem_pick (n := 7) (mem_pick (n := 7) (M) rfl) rfl) rfl) rfl) rfl) rfl))⟩
  try simp only [sA] at hs5_2
  refine gsk ?_
  refine gsk ?_
  refine gsk ?_
  refine gsk ?_
  refine gsk ?_
  refine gsk ?_
  refine gsk ?_
  refine gv (qt_pick_f rfl rfl rfl) ?_
  refine gnt (hK497 _ _ ?_)
  refine gc_cond_f rfl ?_
  refine gc_skip ?_
  refine gk_block ?_
  refine gk_then (hK14 _ _ ?_)
  refine gc_sr fun K507 hK507 => ?_
  refine gv (qts underlying27 (n := 2)) ?_
  refine gop fun K508 hK508 => ?_
  refine gss 3 ?_
  refine hK508 _ _ ?_
  refine gnt (hK507 _ _ ?_)
  refine gc_ret ?_
  refine ret_S (n := 3) rfl rfl underlying27 rfl (by kernel_rfl) rfl (fun w M => ?_)
  first | exact ⟨⟨_, _, _, _, _⟩, _, (by refine ⟨?_, ?_, ?_, ?_, ?_, ?_⟩ <;> (dsimp only; (try simp only [List.length_append, List.length_set, List.length_cons, List.length_nil]); omega)), rfl, mem_packH [_, _] (mem_take 6 (mem_pick (n := 5) (mem_pick (n := 5) (mem_pick (n := 7) (mem_pick (n := 7) (mem_pick (n := 7) (mem_pick (n := 7) (M) rfl) rfl) rfl) rfl) rfl) rfl))⟩ | exact ⟨⟨_, _, _, _, _⟩, _, (by refine ⟨?_, ?_, ?_, ?_, ?_, ?_⟩ <;> (dsimp only; (try simp only [List.length_append, List.length_set, List.length_cons, List.length_nil]); omega)), rfl, mem_packT [_, _] (mem_take 6 (mem_pick (n := 5) (mem_pick (n := 5) (mem_pick (n := 7) (mem_pick (n := 7) (mem_pick (n := 7) (mem_pick (n := 7) (M) rfl) rfl) rfl) rfl) rfl) rfl))⟩
 try simp only [sA] at hc10
 refine gc_region ?_
 refine gv (qt_eql rfl rfl rfl) ?_
 refine gas ?_
 refine gnt (hK44 _ _ ?_)
 refine gc_cond rfl (fun hc16 => ?_) (fun hc16 => ?_)
 ·try simp only [sA] at hc16
  refine gc_sr fun K509 hK509 => ?_
  refine gm ?_
  refine gv (qt_gtr rfl rfl rfl) ?_
  refine g_splitv (.free rfl) rfl rfl (qt_move rfl rfl) (fun hs17_2 => ?_) (fun hs17_2 => ?_)
  ·try simp only [sA] at hs17_2
   refine gvh (qtf underlying27 (z := 0) (off := 4)) ?_
   refine gvh (qtl underlying25 (n := 2)) ?_
   refine gvh (qt_move rfl rfl) ?_
   refine gvh (qti2 (fun w M => lenA_U (n := 7) rfl M)) ?_
   refine gvh (qt_loadU (n := 7) rfl rfl underlying24 rfl rfl (by omega) (by omega)) ?_
   refine gvh (qt_len rfl rfl ulE1 (fun w M => lenV_row (n := 7) rfl (by omega) (by omega) M)) ?_
   refine gvh (qt_gtr rfl rfl rfl) ?_
   refine gv (qt_pick_t rfl rfl rfl) ?_
   refine gnt (hK509 _ _ ?_)
   refine gc_cond rfl (fun hc17 => ?_) (fun hc17 => ?_)
   ·try simp only [sA] at hc17
    have hrl : (row2 c.m (r12 : Int)).length = c.s.length := by rw [row2_of, Int.toNat_natCast]; exact hS.rl _ (by omega)
    try simp only [sL]
    refine gc_cut ([(0, _), (1, _), (3, _), (4, _), (5, _), (6, _), (23, _), (45, _), (54, _), (61, _), (74, _), (88, _)] : Env) (fun s : Int × Int => (fun (y : Int) (z : Int) => ([] : Env)) s.1 s.2) (fun s : Int × Int => (fun (y : Int) (z : Int) => ([(7, own2U (.slice cg7 c.m.length ch7) cu7 (c.m.set (r12 : Int).toNat ((row2 c.m (r12 : Int)).set y.toNat z)))] : List (Nat × Itm))) s.1 s.2) (fun s : Int × Int => (fun (y : Int) (z : Int) => ([] : List Itm)) s.1 s.2) (by repeat first | exact sub_nil | refine sub_cons rfl ?_) ?_ (fun HJ510 => ?_)
    ·rintro ⟨y, z⟩
     simp only [sU, sL]
     refine gk_block ?_
     refine gk_then (hK14 _ _ ?_)
     refine gc_sr fun K511 hK511 => ?_
     refine gv (qts underlying27 (n := 2)) ?_
     refine gop fun K512 hK512 => ?_
     refine gss 3 ?_
     refine hK512 _ _ ?_
     refine gnt (hK511 _ _ ?_)
     refine gc_ret ?_
     refine ret_S (n := 3) rfl rfl underlying27 rfl (by kernel_rfl) rfl (fun w M => ?_)
     first | exact ⟨⟨_, _, _, _, _⟩, _, (by refine ⟨?_, ?_, ?_, ?_, ?_, ?_⟩ <;> (dsimp only; (try simp only [List.length_append, List.length_set, List.length_cons, List.length_nil]); omega)), rfl, mem_packH [_, _] (mem_take 6 (mem_pick (n := 5) (mem_pick (n := 5) (mem_pick (n := 7) (mem_pick (n := 7) (mem_pick (n := 7) (mem_pick (n := 7) (M) rfl) rfl) rfl) rfl) rfl) rfl))⟩ | exact ⟨⟨_, _, _, _, _⟩, _, (by refine ⟨?_, ?_, ?_, ?_, ?_, ?_⟩ <;> (dsimp only; (try simp only [List.length_append, List.length_set, List.length_cons, List.length_nil]); omega)), rfl, mem_packT [_, _] (mem_take 6 (mem_pick (n := 5) (mem_pick (n := 5) (mem_pick (n := 7) (mem_pick (n := 7) (mem_pick (n := 7) (mem_pick (n := 7) (M) rfl) rfl) rfl) rfl) rfl) rfl))⟩
    simp only [sU, sL] at HJ510
    refine ga_start _ (fun w M => mem_erase 0 (mem_erase 7 (M))) ?_
    refine gav 0 rfl (qtf underlying27 (z := 0) (off := 4)) ?_
    refine gav 1 rfl (qtl underlying25 (n := 1)) ?_
    refine gav 2 rfl (qt_move rfl rfl) ?_
    refine gav 5 rfl (qt_move rfl rfl) ?_
    refine gav 6 rfl (qtf underlying27 (z := 0) (off := 4)) ?_
    refine gav 7 rfl (qtl underlying25 (n := 1)) ?_
    refine gav 8 rfl (qt_move rfl rfl) ?_
    refine gav 13 rfl (qt_move rfl rfl) ?_
    refine gav 14 rfl (qt_move rfl rfl) ?_
    refine gav 15 rfl (qt_add rfl rfl rfl (by omega)) ?_
    refine gat 3 9 (fun K513 hK513 => ?_) (fun K513 hK513 => ?_)
    ·refine gov (qti2 (fun w M => lenA_U (n := 7) rfl M)) ?_
     refine hK513 _ _ (fun w M => (ms0 0 7 8 M :)) ?_
     refine gat 4 9 (fun K515 hK515 => ?_) (fun K515 hK515 => ?_)
     ·refine gov (qt_loadU (n := 7) rfl rfl underlying24 rfl rfl (by omega) (by omega)) ?_
      refine hK515 _ _ (fun w M => (ms0 0 7 8 M :)) ?_
      refine gao 9 fun K517 hK517 => ?_
      refine gov (qti2 (fun w M => lenA_U (n := 7) rfl M)) ?_
      refine hK517 _ _ (fun w M => (ms0 0 7 8 M :)) ?_
      refine gao 10 fun K518 hK518 => ?_
      refine gov (qt_loadU (n := 7) rfl rfl underlying24 rfl rfl (by omega) (by omega)) ?_
      refine hK518 _ _ (fun w M => (ms0 0 7 8 M :)) ?_
      refine gao 11 fun K519 hK519 => ?_
      refine gov (qt_len rfl rfl ulE1 (fun w M => lenV_row (n := 7) rfl (by omega) (by omega) M)) ?_
      refine hK519 _ _ (fun w M => (ms0 0 7 8 M :)) ?_
      refine gao 12 fun K521 hK521 => ?_
      refine go_srcNext (n := 0) rfl rfl rfl func51 rfl (by decide) rfl hI rfl (by omega) ?_
      intro r520 hs520
      refine hK521 _ _ (fun w M => (ms0 0 7 8 M :)) ?_
      refine gao 16 fun K523 hK523 => ?_
      refine go_srcNext (n := 0) rfl rfl rfl func51 rfl (by decide) rfl hI rfl (by omega) ?_
      intro r522 hs522
      refine hK523 _ _ (fun w M => (ms0 0 7 8 M :)) ?_
      refine gav 17 rfl (qt_sub rfl rfl rfl (by omega)) ?_
      refine gao 18 fun K524 hK524 => ?_
      refine gov (qt_index rfl rfl rfl ulE1 szE1 (fun w M => lenA_row (n := 7) rfl (by omega) (by omega) M) (by omega) (by omega)) ?_
      refine hK524 _ _ (fun w M => (ms0 0 7 8 M :)) ?_
      refine gao 19 fun K525 hK525 => ?_
      refine go_storeU (n := 7) rfl rfl rfl rfl (by kernel_rfl) rfl (by omega) (by omega) (by omega) (by omega) ?_
      refine hK525 _ _ (fun w M => (ms0 0 7 8 M :)) ?_
      refine ga_done (by kernel_rfl) ?_
      refine gk_pickL [0, 0, 0, 0, 0, 0, 0, 0] ?_
      refine gk_sub ?hs_526 (HJ510 (_, _))
      case hs_526 => repeat first | exact sub_nil | refine sub_cons rfl ?_
     refine gov (qti2 (fun w M => lenA_U (n := 7) rfl M)) ?_
     refine hK515 _ _ (fun w M => (ms0 0 7 8 M :)) ?_
     refine gat 4 10 (fun K528 hK528 => ?_) (fun K528 hK528 => ?_)
     ·refine gov (qt_loadU (n := 7) rfl rfl underlying24 rfl rfl (by omega) (by omega)) ?_
      refine hK528 _ _ (fun w M => (ms0 0 7 8 M :)) ?_
      refine gao 10 fun K530 hK530 => ?_
      refine gov (qt_loadU (n := 7) rfl rfl underlying24 rfl rfl (by omega) (by omega)) ?_
      refine hK530 _ _ (fun w M => (ms0 0 7 8 M :)) ?_
      refine gao 11 fun K531 hK531 => ?_
      refine gov (qt_len rfl rfl ulE1 (fun w M => lenV_row (n := 7) rfl (by omega) (by omega) M)) ?_
      refine hK531 _ _ (fun w M => (ms0 0 7 8 M :)) ?_
      refine gao 12 fun K533 hK533 => ?_
      refine go_srcNext (n := 0) rfl rfl rfl func51 rfl (by decide) rfl hI rfl (by omega) ?_
      intro r532 hs532
      refine hK533 _ _ (fun w M => (ms0 0 7 8 M :)) ?_
      refine gao 16 fun K535 hK535 => ?_
      refine go_srcNext (n := 0) rfl rfl rfl func51 rfl (by decide) rfl hI rfl (by omega) ?_
      intro r534 hs534
      refine hK535 _ _ (fun w M => (ms0 0 7 8 M :)) ?_
      refine gav 17 rfl (qt_sub rfl rfl rfl (by omega)) ?_
      refine gao 18 fun K536 hK536 => ?_
      refine gov (qt_index rfl rfl rfl ulE1 szE1 (fun w M => lenA_row (n := 7) rfl (by omega) (by omega) M) (by omega) (by omega)) ?_
      refine hK536 _ _ (fun w M => (ms0 0 7 8 M :)) ?_
      refine gao 19 fun K537 hK537 => ?_
      refine go_storeU (n := 7) rfl rfl rfl rfl (by kernel_rfl) rfl (by omega) (by omega) (by omega) (by omega) ?_
      refine hK537 _ _ (fun w M => (ms0 0 7 8 M :)) ?_
      refine ga_done (by kernel_rfl) ?_
      refine gk_pickL [0, 0, 0, 0, 0, 0, 0, 0] ?_
      refine gk_sub ?hs_538 (HJ510 (_, _))
      case hs_538 => repeat first | exact sub_nil | refine sub_cons rfl ?_
     refine gov (qt_loadU (n := 7) rfl rfl underlying24 rfl rfl (by omega) (by omega)) ?_
     refine hK528 _ _ (fun w M => (ms0 0 7 8 M :)) ?_
     refine gat 4 11 (fun K540 hK540 => ?_) (fun K540 hK540 => ?_)
     ·refine gov (qt_loadU (n := 7) rfl rfl underlying24 rfl rfl (by omega) (by omega)) ?_
      refine hK540 _ _ (fun w M => (ms0 0 7 8 M :)) ?_
      refine gao 11 fun K542 hK542 => ?_
      refine gov (qt_len rfl rfl ulE1 (fun w M => lenV_row (n := 7) rfl (by omega) (by omega) M)) ?_
      refine hK542 _ _ (fun w M => (ms0 0 7 8 M :)) ?_
      refine gao 12 fun K544 hK544 => ?_
      refine go_srcNext (n := 0) rfl rfl rfl func51 rfl (by decide) rfl hI rfl (by omega) ?_
      intro r543 hs543
      refine hK544 _ _ (fun w M => (ms0 0 7 8 M :)) ?_
      refine gao 16 fun K546 hK546 => ?_
      refine go_srcNext (n := 0) rfl rfl rfl func51 rfl (by decide) rfl hI rfl (by omega) ?_
      intro r545 hs545
      refine hK546 _ _ (fun w M => (ms0 0 7 8 M :)) ?_
      refine gav 17 rfl (qt_sub rfl rfl rfl (by omega)) ?_
      refine gao 18 fun K547 hK547 => ?_
      refine gov (qt_index rfl rfl rfl ulE1 szE1 (fun w M => lenA_row (n := 7) rfl (by omega) (by omega) M) (by omega) (by omega)) ?_
      refine hK547 _ _ (fun w M => (ms0 0 7 8 M :)) ?_
      refine gao 19 fun K548 hK548 => ?_
      refine go_storeU (n := 7) rfl rfl rfl rfl (by kernel_rfl) rfl (by omega) (by omega) (by omega) (by omega) ?_
      refine hK548 _ _ (fun w M => (ms0 0 7 8 M :)) ?_
      refine ga_done (by kernel_rfl) ?_
      refine gk_pickL [0, 0, 0, 0, 0, 0, 0, 0] ?_
      refine gk_sub ?hs_549 (HJ510 (_, _))
      case hs_549 => repeat first | exact sub_nil | refine sub_cons rfl ?_
     refine gov (qt_len rfl rfl ulE1 (fun w M => lenV_row (n := 7) rfl (by omega) (by omega) M)) ?_
     refine hK540 _ _ (fun w M => (ms0 0 7 8 M :)) ?_
     refine gat 4 12 (fun K551 hK551 => ?_) (fun K551 hK551 => ?_)
     ·refine gov (qt_loadU (n := 7) rfl rfl underlying24 rfl rfl (by omega) (by omega)) ?_
      refine hK551 _ _ (fun w M => (ms0 0 7 8 M :)) ?_
      refine gao 12 fun K554 hK554 => ?_
      refine go_srcNext (n := 0) rfl rfl rfl func51 rfl (by decide) rfl hI rfl (by omega) ?_
      intro r553 hs553
      refine hK554 _ _ (fun w M => (ms0 0 7 8 M :)) ?_
      refine gao 16 fun K556 hK556 => ?_
      refine go_srcNext (n := 0) rfl rfl rfl func51 rfl (by decide) rfl hI rfl (by omega) ?_
      intro r555 hs555
      refine hK556 _ _ (fun w M => (ms0 0 7 8 M :)) ?_
      refine gav 17 rfl (qt_sub rfl rfl rfl (by omega)) ?_
      refine gao 18 fun K557 hK557 => ?_
      refine gov (qt_index rfl rfl rfl ulE1 szE1 (fun w M => lenA_row (n := 7) rfl (by omega) (by omega) M) (by omega) (by omega)) ?_
      refine hK557 _ _ (fun w M => (ms0 0 7 8 M :)) ?_
      refine gao 19 fun K558 hK558 => ?_
      refine go_storeU (n := 7) rfl rfl rfl rfl (by kernel_rfl) rfl (by omega) (by omega) (by omega) (by omega) ?_
      refine hK558 _ _ (fun w M => (ms0 0 7 8 M :)) ?_
      refine ga_done (by kernel_rfl) ?_
      refine gk_pickL [0, 0, 0, 0, 0, 0, 0, 0] ?_
      refine gk_sub ?hs_559 (HJ510 (_, _))
      case hs_559 => repeat first | exact sub_nil | refine sub_cons rfl ?_
     refine go_srcNext (n := 0) rfl rfl rfl func51 rfl (by decide) rfl hI rfl (by omega) ?_
     intro r560 hs560
     refine hK551 _ _ (fun w M => (ms0 0 7 8 M :)) ?_
     refine gat 4 16 (fun K562 hK562 => ?_) (fun K562 hK562 => ?_)
     ·refine gov (qt_loadU (n := 7) rfl rfl underlying24 rfl rfl (by omega) (by omega)) ?_
      refine hK562 _ _ (fun w M => (ms0 0 7 8 M :)) ?_
      refine gao 16 fun K565 hK565 => ?_
      refine go_srcNext (n := 0) rfl rfl rfl func51 rfl (by decide) rfl hI rfl (by omega) ?_
      intro r564 hs564
      refine hK565 _ _ (fun w M => (ms0 0 7 8 M :)) ?_
      refine gav 17 rfl (qt_sub rfl rfl rfl (by omega)) ?_
      refine gao 18 fun K566 hK566 => ?_
      refine gov (qt_index rfl rfl rfl ulE1 szE1 (fun w M => lenA_row (n := 7) rfl (by omega) (by omega) M) (by omega) (by omega)) ?_
      refine hK566 _ _ (fun w M => (ms0 0 7 8 M :)) ?_
      refine gao 19 fun K567 hK567 => ?_
      refine go_storeU (n := 7) rfl rfl rfl rfl (by kernel_rfl) rfl (by omega) (by omega) (by omega) (by omega) ?_
      refine hK567 _ _ (fun w M => (ms0 0 7 8 M :)) ?_
      refine ga_done (by kernel_rfl) ?_
      refine gk_pickL [0, 0, 0, 0, 0, 0, 0, 0] ?_
      refine gk_sub ?hs_568 (HJ510 (_, _))
      case hs_568 => repeat first | exact sub_nil | refine sub_cons rfl ?_
     refine go_srcNext (n := 0) rfl rfl rfl func51 rfl (by decide) rfl hI rfl (by omega) ?_
     intro r569 hs569
     refine hK562 _ _ (fun w M => (ms0 0 7 8 M :)) ?_
     refine gav 17 rfl (qt_sub rfl rfl rfl (by omega)) ?_
     refine gao 4 fun K571 hK571 => ?_
     refine gov (qt_loadU (n := 7) rfl rfl underlying24 rfl rfl (by omega) (by omega)) ?_
     refine hK571 _ _ (fun w M => (ms0 0 7 8 M :)) ?_
     refine gao 18 fun K572 hK572 => ?_
     refine gov (qt_index rfl rfl rfl ulE1 szE1 (fun w M => lenA_row (n := 7) rfl (by omega) (by omega) M) (by omega) (by omega)) ?_
     refine hK572 _ _ (fun w M => (ms0 0 7 8 M :)) ?_
     refine gao 19 fun K573 hK573 => ?_
     refine go_storeU (n := 7) rfl rfl rfl rfl (by kernel_rfl) rfl (by omega) (by omega) (by omega) (by omega) ?_
     refine hK573 _ _ (fun w M => (ms0 0 7 8 M :)) ?_
     refine ga_done (by kernel_rfl) ?_
     refine gk_pickL [0, 0, 0, 0, 0, 0, 0, 0] ?_
     refine gk_sub ?hs_574 (HJ510 (_, _))
     case hs_574 => repeat first | exact sub_nil | refine sub_cons rfl ?_
    refine gov (qti2 (fun w M => lenA_U (n := 7) rfl M)) ?_
    refine hK513 _ _ (fun w M => (ms0 0 7 8 M :)) ?_
    refine gat 3 10 (fun K576 hK576 => ?_) (fun K576 hK576 => ?_)
    ·refine gov (qti2 (fun w M => lenA_U (n := 7) rfl M)) ?_
     refine hK576 _ _ (fun w M => (ms0 0 7 8 M :)) ?_
     refine gat 4 10 (fun K578 hK578 => ?_) (fun K578 hK578 => ?_)
     ·refine gov (qt_loadU (n := 7) rfl rfl underlying24 rfl rfl (by omega) (by omega)) ?_
      refine hK578 _ _ (fun w M => (ms0 0 7 8 M :)) ?_
      refine gao 10 fun K580 hK580 => ?_
      refine gov (qt_loadU (n := 7) rfl rfl underlying24 rfl rfl (by omega) (by omega)) ?_
      refine hK580 _ _ (fun w M => (ms0 0 7 8 M :)) ?_
      refine gao 11 fun K581 hK581 => ?_
      refine gov (qt_len rfl rfl ulE1 (fun w M => lenV_row (n := 7) rfl (by omega) (by omega) M)) ?_
      refine hK581 _ _ (fun w M => (ms0 0 7 8 M :)) ?_
      refine gao 12 fun K583 hK583 => ?_
      refine go_srcNext (n := 0) rfl rfl rfl func51 rfl (by decide) rfl hI rfl (by omega) ?_
      intro r582 hs582
      refine hK583 _ _ (fun w M => (ms0 0 7 8 M :)) ?_
      refine gao 16 fun K585 hK585 => ?_
      refine go_srcNext (n := 0) rfl rfl rfl func51 rfl (by decide) rfl hI rfl (by omega) ?_
      intro r584 hs584
      refine hK585 _ _ (fun w M => (ms0 0 7 8 M :)) ?_
      refine gav 17 rfl (qt_sub rfl rfl rfl (by omega)) ?_
      refine gao 18 fun K586 hK586 => ?_
      refine gov (qt_index rfl rfl rfl ulE1 szE1 (fun w M => lenA_row (n := 7) rfl (by omega) (by omega) M) (by omega) (by omega)) ?_
      refine hK586 _ _ (fun w M => (ms0 0 7 8 M :)) ?_
      refine gao 19 fun K587 hK587 => ?_
      refine go_storeU (n := 7) rfl rfl rfl rfl (by kernel_rfl) rfl (by omega) (by omega) (by omega) (by omega) ?_
      refine hK587 _ _ (fun w M => (ms0 0 7 8 M :)) ?_
      refine ga_done (by kernel_rfl) ?_
      refine gk_pickL [0, 0, 0, 0, 0, 0, 0, 0] ?_
      refine gk_sub ?hs_588 (HJ510 (_, _))
      case hs_588 => repeat first | exact sub_nil | refine sub_cons rfl ?_
     refine gov (qt_loadU (n := 7) rfl rfl underlying24 rfl rfl (by omega) (by omega)) ?_
     refine hK578 _ _ (fun w M => (ms0 0 7 8 M :)) ?_
     refine gat 4 11 (fun K590 hK590 => ?_) (fun K590 hK590 => ?_)
     ·refine gov (qt_loadU (n := 7) rfl rfl underlying24 rfl rfl (by omega) (by omega)) ?_
      refine hK590 _ _ (fun w M => (ms0 0 7 8 M :)) ?_
      refine gao 11 fun K592 hK592 => ?_
      refine gov (qt_len rfl rfl ulE1 (fun w M => lenV_row (n := 7) rfl (by omega) (by omega) M)) ?_
      refine hK592 _ _ (fun w M => (ms0 0 7 8 M :)) ?_
      refine gao 12 fun K594 hK594 => ?_
      refine go_srcNext (n := 0) rfl rfl rfl func51 rfl (by decide) rfl hI rfl (by omega) ?_
      intro r593 hs593
      refine hK594 _ _ (fun w M => (ms0 0 7 8 M :)) ?_
      refine gao 16 fun K596 hK596 => ?_
      refine go_srcNext (n := 0) rfl rfl rfl func51 rfl (by decide) rfl hI rfl (by omega) ?_
      intro r595 hs595
      refine hK596 _ _ (fun w M => (ms0 0 7 8 M :)) ?_
      refine gav 17 rfl (qt_sub rfl rfl rfl (by omega)) ?_
      refine gao 18 fun K597 hK597 => ?_
      refine gov (qt_index rfl rfl rfl ulE1 szE1 (fun w M => lenA_row (n := 7) rfl (by omega) (by omega) M) (by omega) (by omega)) ?_
      refine hK597 _ _ (fun w M => (ms0 0 7 8 M :)) ?_
      refine gao 19 fun K598 hK598 => ?_
      refine go_storeU (n := 7) rfl rfl rfl rfl (by kernel_rfl) rfl (by omega) (by omega) (by omega) (by omega) ?_
      refine hK598 _ _ (fun w M => (ms0 0 7 8 M :)) ?_
      refine ga_done (by kernel_rfl) ?_
      refine gk_pickL [0, 0, 0, 0, 0, 0, 0, 0] ?_
      refine gk_sub ?hs_599 (HJ510 (_, _))
      case hs_599 => repeat first | exact sub_nil | refine sub_cons rfl ?_
     refine gov (qt_len rfl rfl ulE1 (fun w M => lenV_row (n := 7) rfl (by omega) (by omega) M)) ?_
     refine hK590 _ _ (fun w M => (ms0 0 7 8 M :)) ?_
     refine gat 4 12 (fun K601 hK601 => ?_) (fun K601 hK601 => ?_)
     ·refine gov (qt_loadU (n := 7) rfl rfl underlying24 rfl rfl (by omega) (by omega)) ?_
      refine hK601 _ _ (fun w M => (ms0 0 7 8 M :)) ?_
      refine gao 12 fun K604 hK604 => ?_
      refine go_srcNext (n := 0) rfl rfl rfl func51 rfl (by decide) rfl hI rfl (by omega) ?_
      intro r603 hs603
      refine hK604 _ _ (fun w M => (ms0 0 7 8 M :)) ?_
      refine gao 16 fun K606 hK606 => ?_
      refine go_srcNext (n := 0) rfl rfl rfl func51 rfl (by decide) rfl hI rfl (by omega) ?_
      intro r605 hs605
      refine hK606 _ _ (fun w M => (ms0 0 7 8 M :)) ?_
      refine gav 17 rfl (qt_sub rfl rfl rfl (by omega)) ?_
      refine gao 18 fun K607 hK607 => ?_
      refine gov (qt_index rfl rfl rfl ulE1 szE1 (fun w M => lenA_row (n := 7) rfl (by omega) (by omega) M) (by omega) (by omega)) ?_
      refine hK607 _ _ (fun w M => (ms0 0 7 8 M :)) ?_
      refine gao 19 fun K608 hK608 => ?_
      refine go_storeU (n := 7) rfl rfl rfl rfl (by kernel_rfl) rfl (by omega) (by omega) (by omega) (by omega) ?_
      refine hK608 _ _ (fun w M => (ms0 0 7 8 M :)) ?_
      refine ga_done (by kernel_rfl) ?_
      refine gk_pickL [0, 0, 0, 0, 0, 0, 0, 0] ?_
      refine gk_sub ?hs_609 (HJ510 (_, _))
      case hs_609 => repeat first | exact sub_nil | refine sub_cons rfl ?_
     refine go_srcNext (n := 0) rfl rfl rfl func51 rfl (by decide) rfl hI rfl (by omega) ?_
     intro r610 hs610
     refine hK601 _ _ (fun w M => (ms0 0 7 8 M :)) ?_
     refine gat 4 16 (fun K612 hK612 => ?_) (fun K612 hK612 => ?_)
     ·refine gov (qt_loadU (n := 7) rfl rfl underlying24 rfl rfl (by omega) (by omega)) ?_
      refine hK612 _ _ (fun w M => (ms0 0 7 8 M :)) ?_
      refine gao 16 fun K615 hK615 => ?_
      refine go_srcNext (n := 0) rfl rfl rfl func51 rfl (by decide) rfl hI rfl (by omega) ?_
      intro r614 hs614
      refine hK615 _ _ (fun w M => (ms0 0 7 8 M :)) ?_
      refine gav 17 rfl (qt_sub rfl rfl rfl (by omega)) ?_
      refine gao 18 fun K616 hK616 => ?_
      refine gov (qt_index rfl rfl rfl ulE1 szE1 (fun w M => lenA_row (n := 7) rfl (by omega) (by omega) M) (by omega) (by omega)) ?_
      refine hK616 _ _ (fun w M => (ms0 0 7 8 M :)) ?_
      refine gao 19 fun K617 hK617 => ?_
      refine go_storeU (n := 7) rfl rfl rfl rfl (by kernel_rfl) rfl (by omega) (by omega) (by omega) (by omega) ?_
      refine hK617 _ _ (fun w M => (ms0 0 7 8 M :)) ?_
      refine ga_done (by kernel_rfl) ?_
      refine gk_pickL [0, 0, 0, 0, 0, 0, 0, 0] ?_
      refine gk_sub ?hs_618 (HJ510 (_, _))
      case hs_618 => repeat first | exact sub_nil | refine sub_cons rfl ?_
     refine go_srcNext (n := 0) rfl rfl rfl func51 rfl (by decide) rfl hI rfl (by omega) ?_
     intro r619 hs619
     refine hK612 _ _ (fun w M => (ms0 0 7 8 M :)) ?_
     refine gav 17 rfl (qt_sub rfl rfl rfl (by omega)) ?_
     refine gao 4 fun K621 hK621 => ?_
     refine gov (qt_loadU (n := 7) rfl rfl underlying24 rfl rfl (by omega) (by omega)) ?_
     refine hK621 _ _ (fun w M => (ms0 0 7 8 M :)) ?_
     refine gao 18 fun K622 hK622 => ?_
     refine gov (qt_index rfl rfl rfl ulE1 szE1 (fun w M => lenA_row (n := 7) rfl (by omega) (by omega) M) (by omega) (by omega)) ?_
     refine hK622 _ _ (fun w M => (ms0 0 7 8 M :)) ?_
     refine gao 19 fun K623 hK623 => ?_
     refine go_storeU (n := 7) rfl rfl rfl rfl (by kernel_rfl) rfl (by omega) (by omega) (by omega) (by omega) ?_
     refine hK623 _ _ (fun w M => (ms0 0 7 8 M :)) ?_
     refine ga_done (by kernel_rfl) ?_
     refine gk_pickL [0, 0, 0, 0, 0, 0, 0, 0] ?_
     refine gk_sub ?hs_624 (HJ510 (_, _))
     case hs_624 => repeat first | exact sub_nil | refine sub_cons rfl ?_
    refine gov (qt_loadU (n := 7) rfl rfl underlying24 rfl rfl (by omega) (by omega)) ?_
    refine hK576 _ _ (fun w M => (ms0 0 7 8 M :)) ?_
    refine gat 3 11 (fun K626 hK626 => ?_) (fun K626 hK626 => ?_)
    ·refine gov (qti2 (fun w M => lenA_U (n := 7) rfl M)) ?_
     refine hK626 _ _ (fun w M => (ms0 0 7 8 M :)) ?_
     refine gat 4 11 (fun K628 hK628 => ?_) (fun K628 hK628 => ?_)
     ·refine gov (qt_loadU (n := 7) rfl rfl underlying24 rfl rfl (by omega) (by omega)) ?_
      refine hK628 _ _ (fun w M => (ms0 0 7 8 M :)) ?_
      refine gao 11 fun K630 hK630 => ?_
      refine gov (qt_len rfl rfl ulE1 (fun w M => lenV_row (n := 7) rfl (by omega) (by omega) M)) ?_
      refine hK630 _ _ (fun w M => (ms0 0 7 8 M :)) ?_
      refine gao 12 fun K632 hK632 => ?_
      refine go_srcNext (n := 0) rfl rfl rfl func51 rfl (by decide) rfl hI rfl (by omega) ?_
      intro r631 hs631
      refine hK632 _ _ (fun w M => (ms0 0 7 8 M :)) ?_
      refine gao 16 fun K634 hK634 => ?_
      refine go_srcNext (n := 0) rfl rfl rfl func51 rfl (by decide) rfl hI rfl (by omega) ?_
      intro r633 hs633
      refine hK634 _ _ (fun w M => (ms0 0 7 8 M :)) ?_
      refine gav 17 rfl (qt_sub rfl rfl rfl (by omega)) ?_
      refine gao 18 fun K635 hK635 => ?_
      refine gov (qt_index rfl rfl rfl ulE1 szE1 (fun w M => lenA_row (n := 7) rfl (by omega) (by omega) M) (by omega) (by omega)) ?_
      refine hK635 _ _ (fun w M => (ms0 0 7 8 M :)) ?_
      refine gao 19 fun K636 hK636 => ?_
      refine go_storeU (n := 7) rfl rfl rfl rfl (by kernel_rfl) rfl (by omega) (by omega) (by omega) (by omega) ?_
      refine hK636 _ _ (fun w M => (ms0 0 7 8 M :)) ?_
      refine ga_done (by kernel_rfl) ?_
      refine gk_pickL [0, 0, 0, 0, 0, 0, 0, 0] ?_
      refine gk_sub ?hs_637 (HJ510 (_, _))
      case hs_637 => repeat first | exact sub_nil | refine sub_cons rfl ?_
     refine gov (qt_len rfl rfl ulE1 (fun w M => lenV_row (n := 7) rfl (by omega) (by omega) M)) ?_
     refine hK628 _ _ (fun w M => (ms0 0 7 8 M :)) ?_
     refine gat 4 12 (fun K639 hK639 => ?_) (fun K639 hK639 => ?_)
     ·refine gov (qt_loadU (n := 7) rfl rfl underlying24 rfl rfl (by omega) (by omega)) ?_
      refine hK639 _ _ (fun w M => (ms0 0 7 8 M :)) ?_
      refine gao 12 fun K642 hK642 => ?_
      refine go_srcNext (n := 0) rfl rfl rfl func51 rfl (by decide) rfl hI rfl (by omega) ?_
      intro r641 hs641
      refine hK642 _ _ (fun w M => (ms0 0 7 8 M :)) ?_
      refine gao 16 fun K644 hK644 => ?_
      refine go_srcNext (n := 0) rfl rfl rfl func51 rfl (by decide) rfl hI rfl (by omega) ?_
      intro r643 hs643
      refine hK644 _ _ (fun w M => (ms0 0 7 8 M :)) ?_
      refine gav 17 rfl (qt_sub rfl rfl rfl (by omega)) ?_
      refine gao 18 fun K645 hK645 => ?_
      refine gov (qt_index rfl rfl rfl ulE1 szE1 (fun w M => lenA_row (n := 7) rfl (by omega) (by omega) M) (by omega) (by omega)) ?_
      refine hK645 _ _ (fun w M => (ms0 0 7 8 M :)) ?_
      refine gao 19 fun K646 hK646 => ?_
      refine go_storeU (n := 7) rfl rfl rfl rfl (by kernel_rfl) rfl (by omega) (by omega) (by omega) (by omega) ?_
      refine hK646 _ _ (fun w M => (ms0 0 7 8 M :)) ?_
      refine ga_done (by kernel_rfl) ?_
      refine gk_pickL [0, 0, 0, 0, 0, 0, 0, 0] ?_
      refine gk_sub ?hs_647 (HJ510 (_, _))
      case hs_647 => repeat first | exact sub_nil | refine sub_cons rfl ?_
     refine go_srcNext (n := 0) rfl rfl rfl func51 rfl (by decide) rfl hI rfl (by omega) ?_
     intro r648 hs648
     refine hK639 _ _ (fun w M => (ms0 0 7 8 M :)) ?_
     refine gat 4 16 (fun K650 hK650 => ?_) (fun K650 hK650 => ?_)
     ·refine gov (qt_loadU (n := 7) rfl rfl underlying24 rfl rfl (by omega) (by omega)) ?_
      refine hK650 _ _ (fun w M => (ms0 0 7 8 M :)) ?_
      refine gao 16 fun K653 hK653 => ?_
      refine go_srcNext (n := 0) rfl rfl rfl func51 rfl (by decide) rfl hI rfl (by omega) ?_
      intro r652 hs652
      refine hK653 _ _ (fun w M => (ms0 0 7 8 M :)) ?_
      refine gav 17 rfl (qt_sub rfl rfl rfl (by omega)) ?_
      refine gao 18 fun K654 hK654 => ?_
      refine gov (qt_index rfl rfl rfl ulE1 szE1 (fun w M => lenA_row (n := 7) rfl (by omega) (by omega) M) (by omega) (by omega)) ?_
      refine hK654 _ _ (fun w M => (ms0 0 7 8 M :)) ?_
      refine gao 19 fun K655 hK655 => ?_
      refine go_storeU (n := 7) rfl rfl rfl rfl (by kernel_rfl) rfl (by omega) (by omega) (by omega) (by omega) ?_
      refine hK655 _ _ (fun w M => (ms0 0 7 8 M :)) ?_
      refine ga_done (by kernel_rfl) ?_
      refine gk_pickL [0, 0, 0, 0, 0, 0, 0, 0] ?_
      refine gk_sub ?hs_656 (HJ510 (_, _))
      case hs_656 => repeat first | exact sub_nil | refine sub_cons rfl ?_
     refine go_srcNext (n := 0) rfl rfl rfl func51 rfl (by decide) rfl hI rfl (by omega) ?_
     intro r657 hs657
     refine hK650 _ _ (fun w M => (ms0 0 7 8 M :)) ?_
     refine gav 17 rfl (qt_sub rfl rfl rfl (by omega)) ?_
     refine gao 4 fun K659 hK659 => ?_
     refine gov (qt_loadU (n := 7) rfl rfl underlying24 rfl rfl (by omega) (by omega)) ?_
     refine hK659 _ _ (fun w M => (ms0 0 7 8 M :)) ?_
     refine gao 18 fun K660 hK660 => ?_
     refine gov (qt_index rfl rfl rfl ulE1 szE1 (fun w M => lenA_row (n := 7) rfl (by omega) (by omega) M) (by omega) (by omega)) ?_
     refine hK660 _ _ (fun w M => (ms0 0 7 8 M :)) ?_
     refine gao 19 fun K661 hK661 => ?_
     refine go_storeU (n := 7) rfl rfl rfl rfl (by kernel_rfl) rfl (by omega) (by omega) (by omega) (by omega) ?_
     refine hK661 _ _ (fun w M => (ms0 0 7 8 M :)) ?_
     refine ga_done (by kernel_rfl) ?_
     refine gk_pickL [0, 0, 0, 0, 0, 0, 0, 0] ?_
     refine gk_sub ?hs_662 (HJ510 (_, _))
     case hs_662 => repeat first | exact sub_nil | refine sub_cons rfl ?_
    refine gov (qt_len rfl rfl ulE1 (fun w M => lenV_row (n := 7) rfl (by omega) (by omega) M)) ?_
    refine hK626 _ _ (fun w M => (ms0 0 7 8 M :)) ?_
    refine gat 3 12 (fun K664 hK664 => ?_) (fun K664 hK664 => ?_)
    ·refine gov (qti2 (fun w M => lenA_U (n := 7) rfl M)) ?_
     refine hK664 _ _ (fun w M => (ms0 0 7 8 M :)) ?_
     refine gat 4 12 (fun K666 hK666 => ?_) (fun K666 hK666 => ?_)
     ·refine gov (qt_loadU (n := 7) rfl rfl underlying24 rfl rfl (by omega) (by omega)) ?_
      refine hK666 _ _ (fun w M => (ms0 0 7 8 M :)) ?_
      refine gao 12 fun K669 hK669 => ?_
      refine go_srcNext (n := 0) rfl rfl rfl func51 rfl (by decide) rfl hI rfl (by omega) ?_
      intro r668 hs668
      refine hK669 _ _ (fun w M => (ms0 0 7 8 M :)) ?_
      refine gao 16 fun K671 hK671 => ?_
      refine go_srcNext (n := 0) rfl rfl rfl func51 rfl (by decide) rfl hI rfl (by omega) ?_
      intro r670 hs670
      refine hK671 _ _ (fun w M => (ms0 0 7 8 M :)) ?_
      refine gav 17 rfl (qt_sub rfl rfl rfl (by omega)) ?_
      refine gao 18 fun K672 hK672 => ?_
      refine gov (qt_index rfl rfl rfl ulE1 szE1 (fun w M => lenA_row (n := 7) rfl (by omega) (by omega) M) (by omega) (by omega)) ?_
      refine hK672 _ _ (fun w M => (ms0 0 7 8 M :)) ?_
      refine gao 19 fun K673 hK673 => ?_
      refine go_storeU (n := 7) rfl rfl rfl rfl (by kernel_rfl) rfl (by omega) (by omega) (by omega) (by omega) ?_
      refine hK673 _ _ (fun w M => (ms0 0 7 8 M :)) ?_
      refine ga_done (by kernel_rfl) ?_
      refine gk_pickL [0, 0, 0, 0, 0, 0, 0, 0] ?_
      refine gk_sub ?hs_674 (HJ510 (_, _))
      case hs_674 => repeat first | exact sub_nil | refine sub_cons rfl ?_
     refine go_srcNext (n := 0) rfl rfl rfl func51 rfl (by decide) rfl hI rfl (by omega) ?_
     intro r675 hs675
     refine hK666 _ _ (fun w M => (ms0 0 7 8 M :)) ?_
     refine gat 4 16 (fun K677 hK677 => ?_) (fun K677 hK677 => ?_)
     ·refine gov (qt_loadU (n := 7) rfl rfl underlying24 rfl rfl (by omega) (by omega)) ?_
      refine hK677 _ _ (fun w M => (ms0 0 7 8 M :)) ?_
      refine gao 16 fun K680 hK680 => ?_
      refine go_srcNext (n := 0) rfl rfl rfl func51 rfl (by decide) rfl hI rfl (by omega) ?_
      intro r679 hs679
      refine hK680 _ _ (fun w M => (ms0 0 7 8 M :)) ?_
      refine gav 17 rfl (qt_sub rfl rfl rfl (by omega)) ?_
      refine gao 18 fun K681 hK681 => ?_
      refine gov (qt_index rfl rfl rfl ulE1 szE1 (fun w M => lenA_row (n := 7) rfl (by omega) (by omega) M) (by omega) (by omega)) ?_
      refine hK681 _ _ (fun w M => (ms0 0 7 8 M :)) ?_
      refine gao 19 fun K682 hK682 => ?_
      refine go_storeU (n := 7) rfl rfl rfl rfl (by kernel_rfl) rfl (by omega) (by omega) (by omega) (by omega) ?_
      refine hK682 _ _ (fun w M => (ms0 0 7 8 M :)) ?_
      refine ga_done (by kernel_rfl) ?_
      refine gk_pickL [0, 0, 0, 0, 0, 0, 0, 0] ?_
      refine gk_sub ?hs_683 (HJ510 (_, _))
      case hs_683 => repeat first | exact sub_nil | refine sub_cons rfl ?_
     refine go_srcNext (n := 0) rfl rfl rfl func51 rfl (by decide) rfl hI rfl (by omega) ?_
     intro r684 hs684
     refine hK677 _ _ (fun w M => (ms0 0 7 8 M :)) ?_
     refine gav 17 rfl (qt_sub rfl rfl rfl (by omega)) ?_
     refine gao 4 fun K686 hK686 => ?_
     refine gov (qt_loadU (n := 7) rfl rfl underlying24 rfl rfl (by omega) (by omega)) ?_
     refine hK686 _ _ (fun w M => (ms0 0 7 8 M :)) ?_
     refine gao 18 fun K687 hK687 => ?_
     refine gov (qt_index rfl rfl rfl ulE1 szE1 (fun w M => lenA_row (n := 7) rfl (by omega) (by omega) M) (by omega) (by omega)) ?_
     refine hK687 _ _ (fun w M => (ms0 0 7 8 M :)) ?_
     refine gao 19 fun K688 hK688 => ?_
     refine go_storeU (n := 7) rfl rfl rfl rfl (by kernel_rfl) rfl (by omega) (by omega) (by omega) (by omega) ?_
     refine hK688 _ _ (fun w M => (ms0 0 7 8 M :)) ?_
     refine ga_done (by kernel_rfl) ?_
     refine gk_pickL [0, 0, 0, 0, 0, 0, 0, 0] ?_
     refine gk_sub ?hs_689 (HJ510 (_, _))
     case hs_689 => repeat first | exact sub_nil | refine sub_cons rfl ?_
    refine go_srcNext (n := 0) rfl rfl rfl func51 rfl (by decide) rfl hI rfl (by omega) ?_
    intro r690 hs690
    refine hK664 _ _ (fun w M => (ms0 0 7 8 M :)) ?_
    refine gat 3 16 (fun K692 hK692 => ?_) (fun K692 hK692 => ?_)
    ·refine gov (qti2 (fun w M => lenA_U (n := 7) rfl M)) ?_
     refine hK692 _ _ (fun w M => (ms0 0 7 8 M :)) ?_
     refine gat 4 16 (fun K694 hK694 => ?_) (fun K694 hK694 => ?_)
     ·refine gov (qt_loadU (n := 7) rfl rfl underlying24 rfl rfl (by omega) (by omega)) ?_
      refine hK694 _ _ (fun w M => (ms0 0 7 8 M :)) ?_
      refine gao 16 fun K697 hK697 => ?_
      refine go_srcNext (n := 0) rfl rfl rfl func51 rfl (by decide) rfl hI rfl (by omega) ?_
      intro r696 hs696
      refine hK697 _ _ (fun w M => (ms0 0 7 8 M :)) ?_
      refine gav 17 rfl (qt_sub rfl rfl rfl (by omega)) ?_
      refine gao 18 fun K698 hK698 => ?_
      refine gov (qt_index rfl rfl rfl ulE1 szE1 (fun w M => lenA_row (n := 7) rfl (by omega) (by omega) M) (by omega) (by omega)) ?_
      refine hK698 _ _ (fun w M => (ms0 0 7 8 M :)) ?_
      refine gao 19 fun K699 hK699 => ?_
      refine go_storeU (n := 7) rfl rfl rfl rfl (by kernel_rfl) rfl (by omega) (by omega) (by omega) (by omega) ?_
      refine hK699 _ _ (fun w M => (ms0 0 7 8 M :)) ?_
      refine ga_done (by kernel_rfl) ?_
      refine gk_pickL [0, 0, 0, 0, 0, 0, 0, 0] ?_
      refine gk_sub ?hs_700 (HJ510 (_, _))
      case hs_700 => repeat first | exact sub_nil | refine sub_cons rfl ?_
     refine go_srcNext (n := 0) rfl rfl rfl func51 rfl (by decide) rfl hI rfl (by omega) ?_
     intro r701 hs701
     refine hK694 _ _ (fun w M => (ms0 0 7 8 M :)) ?_
     refine gav 17 rfl (qt_sub rfl rfl rfl (by omega)) ?_
     refine gao 4 fun K703 hK703 => ?_
     refine gov (qt_loadU (n := 7) rfl rfl underlying24 rfl rfl (by omega) (by omega)) ?_
     refine hK703 _ _ (fun w M => (ms0 0 7 8 M :)) ?_
     refine gao 18 fun K704 hK704 => ?_
     refine gov (qt_index rfl rfl rfl ulE1 szE1 (fun w M => lenA_row (n := 7) rfl (by omega) (by omega) M) (by omega) (by omega)) ?_
     refine hK704 _ _ (fun w M => (ms0 0 7 8 M :)) ?_
     refine gao 19 fun K705 hK705 => ?_
     refine go_storeU (n := 7) rfl rfl rfl rfl (by kernel_rfl) rfl (by omega) (by omega) (by omega) (by omega) ?_
     refine hK705 _ _ (fun w M => (ms0 0 7 8 M :)) ?_
     refine ga_done (by kernel_rfl) ?_
     refine gk_pickL [0, 0, 0, 0, 0, 0, 0, 0] ?_
     refine gk_sub ?hs_706 (HJ510 (_, _))
     case hs_706 => repeat first | exact sub_nil | refine sub_cons rfl ?_
    refine go_srcNext (n := 0) rfl rfl rfl func51 rfl (by decide) rfl hI rfl (by omega) ?_
    intro r707 hs707
    refine hK692 _ _ (fun w M => (ms0 0 7 8 M :)) ?_
    refine gav 17 rfl (qt_sub rfl rfl rfl (by omega)) ?_
    refine gao 3 fun K709 hK709 => ?_
    refine gov (qti2 (fun w M => lenA_U (n := 7) rfl M)) ?_
    refine hK709 _ _ (fun w M => (ms0 0 7 8 M :)) ?_
    refine gao 4 fun K710 hK710 => ?_
    refine gov (qt_loadU (n := 7) rfl rfl underlying24 rfl rfl (by omega) (by omega)) ?_
    refine hK710 _ _ (fun w M => (ms0 0 7 8 M :)) ?_
    refine gao 18 fun K711 hK711 => ?_
    refine gov (qt_index rfl rfl rfl ulE1 szE1 (fun w M => lenA_row (n := 7) rfl (by omega) (by omega) M) (by omega) (by omega)) ?_
    refine hK711 _ _ (fun w M => (ms0 0 7 8 M :)) ?_
    refine gao 19 fun K712 hK712 => ?_
    refine go_storeU (n := 7) rfl rfl rfl rfl (by kernel_rfl) rfl (by omega) (by omega) (by omega) (by omega) ?_
    refine hK712 _ _ (fun w M => (ms0 0 7 8 M :)) ?_
    refine ga_done (by kernel_rfl) ?_
    refine gk_pickL [0, 0, 0, 0, 0, 0, 0, 0] ?_
    refine gk_sub ?hs_713 (HJ510 (_, _))
    case hs_713 => repeat first | exact sub_nil | refine sub_cons rfl ?_
   try simp only [sA] at hc17
   refine gc_skip ?_
   refine gk_block ?_
   refine gk_then (hK14 _ _ ?_)
   refine gc_sr fun K714 hK714 => ?_
   refine gv (qts underlying27 (n := 2)) ?_
   refine gop fun K715 hK715 => ?_
   refine gss 3 ?_
   refine hK715 _ _ ?_
   refine gnt (hK714 _ _ ?_)
   refine gc_ret ?_
   refine ret_S (n := 3) rfl rfl underlying27 rfl (by kernel_rfl) rfl (fun w M => ?_)
   first | exact ⟨⟨_, _, _, _, _⟩, _, (by refine ⟨?_, ?_, ?_, ?_, ?_, ?_⟩ <;> (dsimp only; (try simp only [List.length_append, List.length_set, List.length_cons, List.length_nil]); omega)), rfl, mem_packH [_, _] (mem_take 6 (mem_pick (n := 5) (mem_pick (n := 5) (mem_pick (n := 7) (mem_pick (n := 7) (mem_pick (n := 7) (mem_pick (n := 7) (M) rfl) rfl) rfl) rfl) rfl) rfl))⟩ | exact ⟨⟨_, _, _, _, _⟩, _, (by refine ⟨?_, ?_, ?_, ?_, ?_, ?_⟩ <;> (dsimp only; (try simp only [List.length_append, List.length_set, List.length_cons, List.length_nil]); omega)), rfl, mem_packT [_, _] (mem_take 6 (mem_pick (n := 5) (mem_pick (n := 5) (mem_pick (n := 7) (mem_pick (n := 7) (mem_pick (n := 7) (mem_pick (n := 7) (M) rfl) rfl) rfl) rfl) rfl) rfl))⟩
  try simp only [sA] at hs17_2
  refine gsk ?_
  refine gsk ?_
  refine gsk ?_
  refine gsk ?_
  refine gsk ?_
  refine gsk ?_
  refine gsk ?_
  refine gv (qt_pick_f rfl rfl rfl) ?_
  refine gnt (hK509 _ _ ?_)
  refine gc_cond_f rfl ?_
  refine gc_skip ?_
  refine gk_block ?_
  refine gk_then (hK14 _ _ ?_)
  refine gc_sr fun K716 hK716 => ?_
  refine gv (qts underlying27 (n := 2)) ?_
  refine gop fun K717 hK717 => ?_
  refine gss 3 ?_
  refine hK717 _ _ ?_
  refine gnt (hK716 _ _ ?_)
  refine gc_ret ?_
  refine ret_S (n := 3) rfl rfl underlying27 rfl (by kernel_rfl) rfl (fun w M => ?_)
  first | exact ⟨⟨_, _, _, _, _⟩, _, (by refine ⟨?_, ?_, ?_, ?_, ?_, ?_⟩ <;> (dsimp only; (try simp only [List.length_append, List.length_set, List.length_cons, List.length_nil]); omega)), rfl, mem_packH [_, _] (mem_take 6 (mem_pick (n := 5) (mem_pick (n := 5) (mem_pick (n := 7) (mem_pick (n := 7) (mem_pick (n := 7) (mem_pick (n := 7) (M) rfl) rfl) rfl) rfl) rfl) rfl))⟩ | exact ⟨⟨_, _, _, _, _⟩, _, (by refine ⟨?_, ?_, ?_, ?_, ?_, ?_⟩ <;> (dsimp only; (try simp only [List.length_append, List.length_set, List.length_cons, List.length_nil]); omega)), rfl, mem_packT [_, _] (mem_take 6 (mem_pick (n := 5) (mem_pick (n := 5) (mem_pick (n := 7) (mem_pick (n := 7) (mem_pick (n := 7) (mem_pick (n := 7) (M) rfl) rfl) rfl) rfl) rfl) rfl))⟩
 try simp only [sA] at hc16
 refine gc_sr fun K718 hK718 => ?_
 refine gv (qt_eql rfl rfl rfl) ?_
 refine gas ?_
 refine gnt (hK718 _ _ ?_)
 refine gc_cond rfl (fun hc18 => ?_) (fun hc18 => ?_)
 ·try simp only [sA] at hc18
  refine gc_sr fun K719 hK719 => ?_
  refine gm ?_
  refine gv (qt_gtr rfl rfl rfl) ?_
  refine gnt (hK719 _ _ ?_)
  refine gc_cond rfl (fun hc19 => ?_) (fun hc19 => ?_)
  ·try simp only [sA] at hc19
   try simp only [sL]
   refine ga_start _ (fun w M => mem_erase 0 (mem_erase 5 (M))) ?_
   refine gav 0 rfl (qtf underlying27 (z := 0) (off := 2)) ?_
   refine gav 1 rfl (qtl underlying24 (n := 1)) ?_
   refine gav 2 rfl (qt_move rfl rfl) ?_
   refine gav 3 rfl (qt_move rfl rfl) ?_
   refine gav 4 rfl (qtf underlying27 (z := 0) (off := 0)) ?_
   refine gav 5 rfl (qtl underlying2 (n := 1)) ?_
   refine gav 6 rfl (qt_add rfl rfl rfl (by omega)) ?_
   refine gao 7 fun K721 hK721 => ?_
   refine go_srcNext (n := 0) rfl rfl rfl func51 rfl (by decide) rfl hI rfl (by omega) ?_
   intro r720 hs720
   refine hK721 _ _ (fun w M => (ms0 0 5 8 M :)) ?_
   refine gao 8 fun K722 hK722 => ?_
   refine gov (qti (fun w M => lenA_own1 (n := 5) rfl M)) ?_
   refine hK722 _ _ (fun w M => (ms0 0 5 8 M :)) ?_
   refine gao 9 fun K723 hK723 => ?_
   refine go_store1 (n := 5) rfl rfl rfl rfl (by kernel_rfl) rfl (by omega) (by omega) ?_
   refine hK723 _ _ (fun w M => (ms0 0 5 8 M :)) ?_
   refine ga_done (by kernel_rfl) ?_
   refine gk_block ?_
   refine gk_then (hK14 _ _ ?_)
   refine gc_sr fun K724 hK724 => ?_
   refine gv (qts underlying27 (n := 2)) ?_
   refine gop fun K725 hK725 => ?_
   refine gss 3 ?_
   refine hK725 _ _ ?_
   refine gnt (hK724 _ _ ?_)
   refine gc_ret ?_
   refine ret_S (n := 3) rfl rfl underlying27 rfl (by kernel_rfl) rfl (fun w M => ?_)
   first | exact ⟨⟨_, _, _, _, _⟩, _, (by refine ⟨?_, ?_, ?_, ?_, ?_, ?_⟩ <;> (dsimp only; (try simp only [List.length_append, List.length_set, List.length_cons, List.length_nil]); omega)), rfl, mem_packH [_, _] (mem_take 6 (mem_pick (n := 5) (mem_pick (n := 5) (mem_pick (n := 7) (mem_pick (n := 7) (mem_pick (n := 7) (mem_pick (n := 7) (M) rfl) rfl) rfl) rfl) rfl) rfl))⟩ | exact ⟨⟨_, _, _, _, _⟩, _, (by refine ⟨?_, ?_, ?_, ?_, ?_, ?_⟩ <;> (dsimp only; (try simp only [List.length_append, List.length_set, List.length_cons, List.length_nil]); omega)), rfl, mem_packT [_, _] (mem_take 6 (mem_pick (n := 5) (mem_pick (n := 5) (mem_pick (n := 7) (mem_pick (n := 7) (mem_pick (n := 7) (mem_pick (n := 7) (M) rfl) rfl) rfl) rfl) rfl) rfl))⟩
  try simp only [sA] at hc19
  refine gc_skip ?_
  refine gk_block ?_
  refine gk_then (hK14 _ _ ?_)
  refine gc_sr fun K726 hK726 => ?_
  refine gv (qts underlying27 (n := 2)) ?_
  refine gop fun K727 hK727 => ?_
  refine gss 3 ?_
  refine hK727 _ _ ?_
  refine gnt (hK726 _ _ ?_)
  refine gc_ret ?_
  refine ret_S (n := 3) rfl rfl underlying27 rfl (by kernel_rfl) rfl (fun w M => ?_)
  first | exact ⟨⟨_, _, _, _, _⟩, _, (by refine ⟨?_, ?_, ?_, ?_, ?_, ?_⟩ <;> (dsimp only; (try simp only [List.length_append, List.length_set, List.length_cons, List.length_nil]); omega)), rfl, mem_packH [_, _] (mem_take 6 (mem_pick (n := 5) (mem_pick (n := 5) (mem_pick (n := 7) (mem_pick (n := 7) (mem_pick (n := 7) (mem_pick (n := 7) (M) rfl) rfl) rfl) rfl) rfl) rfl))⟩ | exact ⟨⟨_, _, _, _, _⟩, _, (by refine ⟨?_, ?_, ?_, ?_, ?_, ?_⟩ <;> (dsimp only; (try simp only [List.length_append, List.length_set, List.length_cons, List.length_nil]); omega)), rfl, mem_packT [_, _] (mem_take 6 (mem_pick (n := 5) (mem_pick (n := 5) (mem_pick (n := 7) (mem_pick (n := 7) (mem_pick (n := 7) (mem_pick (n := 7) (M) rfl) rfl) rfl) rfl) rfl) rfl))⟩
 try simp only [sA] at hc18
 refine gc_sr fun K728 hK728 => ?_
 refine gm ?_
 refine gv (qt_gtr rfl rfl rfl) ?_
 refine g_splitv (.free rfl) rfl rfl (qt_move rfl rfl) (fun hs5_2 => ?_) (fun hs5_2 => ?_)
 ·try simp only [sA] at hs5_2
  refine gvh (qtf underlying27 (z := 0) (off := 4)) ?_
  refine gvh (qtl underlying25 (n := 2)) ?_
  refine gvh (qt_move rfl rfl) ?_
  refine gvh (qti2 (fun w M => lenA_U (n := 7) rfl M)) ?_
  refine gvh (qt_loadU (n := 7) rfl rfl underlying24 rfl rfl (by omega) (by omega)) ?_
  refine gvh (qt_len rfl rfl ulE1 (fun w M => lenV_row (n := 7) rfl (by omega) (by omega) M)) ?_
  refine gvh (qt_gtr rfl rfl rfl) ?_
  refine gv (qt_pick_t rfl rfl rfl) ?_
  refine gnt (hK728 _ _ ?_)
  refine gc_cond rfl (fun hc20 => ?_) (fun hc20 => ?_)
  ·try simp only [sA] at hc20
   try simp only [sL]
   refine ga_start _ (fun w M => mem_erase 7 (M)) ?_
   refine gav 0 rfl (qtf underlying27 (z := 0) (off := 4)) ?_
   refine gav 1 rfl (qtl underlying25 (n := 2)) ?_
   refine gav 2 rfl (qt_move rfl rfl) ?_
   refine gav 3 rfl (qtf underlying27 (z := 0) (off := 4)) ?_
   refine gav 4 rfl (qtl underlying25 (n := 2)) ?_
   refine gav 5 rfl (qt_move rfl rfl) ?_
   refine gao 6 fun K729 hK729 => ?_
   refine gov (qti2 (fun w M => lenA_U (n := 7) rfl M)) ?_
   refine hK729 _ _ (fun w M => (ms1 7 8 M :)) ?_
   refine gao 7 fun K730 hK730 => ?_
   refine gov (qt_loadU (n := 7) rfl rfl underlying24 rfl rfl (by omega) (by omega)) ?_
   refine hK730 _ _ (fun w M => (ms1 7 8 M :)) ?_
   refine gao 8 fun K731 hK731 => ?_
   refine gov (qt_tail rfl rfl underlying24 (fun w M => mem_rowU (n := 7) M rfl (by omega) (by omega)) (by omega)) ?_
   refine hK731 _ _ (fun w M => (ms1 7 8 M :)) ?_
   refine gao 9 fun K732 hK732 => ?_
   refine gov (qti2 (fun w M => lenA_U (n := 7) rfl M)) ?_
   refine hK732 _ _ (fun w M => (ms1 7 8 M :)) ?_
   refine gao 10 fun K733 hK733 => ?_
   refine go_storeTail (n := 7) rfl rfl rfl rfl (by kernel_rfl) rfl (by omega) (by omega) (by omega) ?_
   refine hK733 _ _ (fun w M => (ms1 7 8 M :)) ?_
   refine ga_done (by kernel_rfl) ?_
   refine gk_block ?_
   refine gk_then (hK14 _ _ ?_)
   refine gc_sr fun K734 hK734 => ?_
   refine gv (qts underlying27 (n := 2)) ?_
   refine gop fun K735 hK735 => ?_
   refine gss 3 ?_
   refine hK735 _ _ ?_
   refine gnt (hK734 _ _ ?_)
   refine gc_ret ?_
   refine ret_S (n := 3) rfl rfl underlying27 rfl (by kernel_rfl) rfl (fun w M => ?_)
   first | exact ⟨⟨_, _, _, _, _⟩, _, (by refine ⟨?_, ?_, ?_, ?_, ?_, ?_⟩ <;> (dsimp only; (try simp only [List.length_append, List.length_set, List.length_cons, List.length_nil]); omega)), rfl, mem_packH [_, _] (mem_take 6 (mem_pick (n := 5) (mem_pick (n := 5) (mem_pick (n := 7) (mem_pick (n := 7) (mem_pick (n := 7) (mem_pick (n := 7) (M) rfl) rfl) rfl) rfl) rfl) rfl))⟩ | exact ⟨⟨_, _, _, _, _⟩, _, (by refine ⟨?_, ?_, ?_, ?_, ?_, ?_⟩ <;> (dsimp only; (try simp only [List.length_append, List.length_set, List.length_cons, List.length_nil]); omega)), rfl, mem_packT [_, _] (mem_take 6 (mem_pick (n := 5) (mem_pick (n := 5) (mem_pick (n := 7) (mem_pick (n := 7) (mem_pick (n := 7) (mem_pick (n := 7) (M) rfl) rfl) rfl) rfl) rfl) rfl))⟩
  try simp only [sA] at hc20
  refine gc_skip ?_
  refine gk_block ?_
  refine gk_then (hK14 _ _ ?_)
  refine gc_sr fun K736 hK736 => ?_
  refine gv (qts underlying27 (n := 2)) ?_
  refine gop fun K737 hK737 => ?_
  refine gss 3 ?_
  refine hK737 _ _ ?_
  refine gnt (hK736 _ _ ?_)
  refine gc_ret ?_
  refine ret_S (n := 3) rfl rfl underlying27 rfl (by kernel_rfl) rfl (fun w M => ?_)
  first | exact ⟨⟨_, _, _, _, _⟩, _, (by refine ⟨?_, ?_, ?_, ?_, ?_, ?_⟩ <;> (dsimp only; (try simp only [List.length_append, List.length_set, List.length_cons, List.length_nil]); omega)), rfl, mem_packH [_, _] (mem_take 6 (mem_pick (n := 5) (mem_pick (n := 5) (mem_pick (n := 7) (mem_pick (n := 7) (mem_pick (n := 7) (mem_pick (n := 7) (M) rfl) rfl) rfl) rfl) rfl) rfl))⟩ | exact ⟨⟨_, _, _, _, _⟩, _, (by refine ⟨?_, ?_, ?_, ?_, ?_, ?_⟩ <;> (dsimp only; (try simp only [List.length_append, List.length_set, List.length_cons, List.length_nil]); omega)), rfl, mem_packT [_, _] (mem_take 6 (mem_pick (n := 5) (mem_pick (n := 5) (mem_pick (n := 7) (mem_pick (n := 7) (mem_pick (n := 7) (mem_pick (n := 7) (M) rfl) rfl) rfl) rfl) rfl) rfl))⟩
 try simp only [sA] at hs5_2
 refine gsk ?_
 refine gsk ?_
 refine gsk ?_
 refine gsk ?_
 refine gsk ?_
 refine gsk ?_
 refine gsk ?_
 refine gv (qt_pick_f rfl rfl rfl) ?_
 refine gnt (hK728 _ _ ?_)
 refine gc_cond_f rfl ?_
 refine gc_skip ?_
 refine gk_block ?_
 refine gk_then (hK14 _ _ ?_)
 refine gc_sr fun K738 hK738 => ?_
 refine gv (qts underlying27 (n := 2)) ?_
 refine gop fun K739 hK739 => ?_
 refine gss 3 ?_
 refine hK739 _ _ ?_
 refine gnt (hK738 _ _ ?_)
 refine gc_ret ?_
 refine ret_S (n := 3) rfl rfl underlying27 rfl (by kernel_rfl) rfl (fun w M => ?_)
 first | exact ⟨⟨_, _, _, _, _⟩, _, (by refine ⟨?_, ?_, ?_, ?_, ?_, ?_⟩ <;> (dsimp only; (try simp only [List.length_append, List.length_set, List.length_cons, List.length_nil]); omega)), rfl, mem_packH [_, _] (mem_take 6 (mem_pick (n := 5) (mem_pick (n := 5) (mem_pick (n := 7) (mem_pick (n := 7) (mem_pick (n := 7) (mem_pick (n := 7) (M) rfl) rfl) rfl) rfl) rfl) rfl))⟩ | exact ⟨⟨_, _, _, _, _⟩, _, (by refine ⟨?_, ?_, ?_, ?_, ?_, ?_⟩ <;> (dsimp only; (try simp only [List.length_append, List.length_set, List.length_cons, List.length_nil]); omega)), rfl, mem_packT [_, _] (mem_take 6 (mem_pick (n := 5) (mem_pick (n := 5) (mem_pick (n := 7) (mem_pick (n := 7) (mem_pick (n := 7) (mem_pick (n := 7) (M) rfl) rfl) rfl) rfl) rfl) rfl))⟩
end Go.Proofs.Ytbiplocgenppoaa
