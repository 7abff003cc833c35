
/- A part of a category, numbered anew: the model's and the program's. -/
import Derived.Test.YtbfenibkbmkcaaaShort
import Derived.Test.YtbfenibkbmkcaaaEnts
import Derived.Test.YtbfenibkbmkcaaaSub
set_option linter.unusedSimpArgs false
set_option linter.unusedVariables false
set_option linter.unusedSectionVars false
namespace Go.Proofs.Ytbfenibkbmkcaaa
open Go.RowKit


def pIn (c : Cat) (xs : List Int) (x : Nat) : Prop := at0 c.e (x : Int) ∈ xs
noncomputable def pO (c : Cat) (xs : List Int) (k : Nat) : List Int := filTo (pIn c xs) (fun x => (x : Int)) k
noncomputable def pE (c : Cat) (xs : List Int) (k : Nat) : List Int := filTo (pIn c xs) (fun x => idxI xs (at0 c.e (x : Int))) k
noncomputable def pOb (c : Cat) (xs : List Int) : List Int := pO c xs c.e.length
noncomputable def partC (c : Cat) (xs : List Int) : Cat :=
 ⟨(pOb c xs).length, tabTo (fun i => idxI (pOb c xs) (at0 c.s (at0 xs (i : Int)))) xs.length, tabTo (fun i => idxI (pOb c xs) (at0 c.t (at0 xs (i : Int)))) xs.length, pE c xs c.e.length, rowsTo (fun i => tabTo (fun j => idxI xs (c.th (at0 xs (i : Int)) (at0 xs (j : Int)))) xs.length) xs.length⟩
theorem pO_len (c : Cat) (xs : List Int) (k : Nat) : (pO c xs k).length ≤ k := filTo_len _ _ _
theorem pE_len (c : Cat) (xs : List Int) (k : Nat) : (pE c xs k).length = (pO c xs k).length := filTo_lenEq _ _ _ _
theorem pO_t {c : Cat} {xs : List Int} {k : Nat} (h : at0 c.e (k : Int) ∈ xs) : pO c xs k ++ [(k : Int)] = pO c xs (k + 1) := filTo_t (p := pIn c xs) h
theorem pO_f {c : Cat} {xs : List Int} {k : Nat} (h : ¬ at0 c.e (k : Int) ∈ xs) : pO c xs k = pO c xs (k + 1) := filTo_f (p := pIn c xs) h
theorem pE_t {c : Cat} {xs : List Int} {k : Nat} (h : at0 c.e (k : Int) ∈ xs) : pE c xs k ++ [idxI xs (at0 c.e (k : Int))] = pE c xs (k + 1) := filTo_t (p := pIn c xs) h
theorem pE_f {c : Cat} {xs : List Int} {k : Nat} (h : ¬ at0 c.e (k : Int) ∈ xs) : pE c xs k = pE c xs (k + 1) := filTo_f (p := pIn c xs) h
theorem pE_eq (c : Cat) (xs : List Int) : tabTo (fun i => idxI xs (at0 c.e (at0 (pOb c xs) (i : Int)))) (pOb c xs).length = pE c xs c.e.length := by
 rw [tab_map (fun y => idxI xs (at0 c.e y)) (pOb c xs)]
 exact filTo_map (pIn c xs) (fun x => (x : Int)) (fun y => idxI xs (at0 c.e y)) c.e.length
theorem pO_at {c : Cat} {xs : List Int} {k : Nat} (h : k < (pOb c xs).length) : 0 ≤ at0 (pOb c xs) (k : Int) ∧ at0 (pOb c xs) (k : Int) < c.e.length := by
 obtain ⟨j, h1, _, h2⟩ := filTo_mem.1 (at0_mem h)
 have h3 : at0 (pOb c xs) (k : Int) = j := h2.symm
 rw [h3]; omega
theorem allP_k {n : Int} {xs : List Int} (h : AllP n xs) {k : Nat} (hk : k < xs.length) : 0 ≤ at0 xs (k : Int) ∧ at0 xs (k : Int) < n := allP_at h hk

set_option maxHeartbeats 1000000 in
set_option maxRecDepth 100000 in
theorem specPart_any (w : World) (v u : Value) (c : Cat) (xs : List Int) (h : RdC w v c) (hS : ShapeP c) (hu : Rd w u xs) (hx : AllP c.s.length xs) (hl : xs.length ≤ 40) :
  Calls Try.prog 79 #[v, u] w (RetC w (partC c xs)) := by
 have h0 := h
 obtain ⟨va, vb, vc, vd, ve, vf, vg, vh, rfl, h1, h2, h3, h4, _⟩ := h.lists
 obtain ⟨ua, uc, rfl⟩ := rd_form hu
 have hn40 := hS.n40; have htl := hS.tl; have hel := hS.el; have hob0 := hS.ob0; have hob8 := hS.ob8; have hml := hS.ml
 have hoL := pO_len c xs c.e.length
 have hoB : (pOb c xs).length ≤ c.e.length := hoL
 go_enter Try.func79, Try.ntmps79
 refine gc_enter (N := 127) rfl (look_cons (k := 0) rfl (look_cons (k := 1) rfl (look_nil _))) ?_
 refine gc_sr fun K1 hK1 => ?_
 refine gop fun K3 hK3 => ?_
 refine go_box rfl rfl rfl rfl rfl ?_
 intro B2
 refine hK3 _ _ ?_
 refine gop fun K5 hK5 => ?_
 refine go_alloc (z := (.agg #[.int .i64 0, .slice none 0 0, .slice none 0 0, .slice none 0 0, .slice none 0 0])) (cs := [.int .i64 0, .slice none 0 0, .slice none 0 0, .slice none 0 0, .slice none 0 0]) rfl rfl rfl (fun w => by kernel_rfl) rfl ?_
 intro B4
 refine hK5 _ _ ?_
 refine gnt (hK1 _ _ ?_)
 refine gc_sr fun K6 hK6 => ?_
 refine gop fun K8 hK8 => ?_
 refine go_slice0 rfl rfl rfl Try.underlying22 ?_
 intro B7
 refine hK8 _ _ ?_
 refine gas ?_
 refine gnt (hK6 _ _ ?_)
 refine gc_seq fun K9 hK9 => ?_
 refine gc_sr fun K10 hK10 => ?_
 refine gas ?_
 refine gnt (hK10 _ _ ?_)
 refine gc_block ?_
 try simp only [sL]
 refine gc_loopT ([(0, _), (1, _), (2, _), (4, _)] : Env) (fun s : Nat × (Option Addr) × Nat => (fun (k : Nat) (a : Option Addr) (q : Nat) => (([(5, .slice a (pO c xs k).length q), (6, .int .i64 (k : Int))] : Env), ([(2, own1I (.slice a (pO c xs k).length q) (pO c xs k))] : List (Nat × Itm)), k ≤ c.e.length, c.e.length - k)) s.1 s.2.1 s.2.2) (0, _, _) (by repeat first | exact sub_nil | refine sub_cons rfl ?_) rfl (Nat.zero_le _) ?_
 rintro ⟨k, a, q⟩ hinv KL11 hKL11
 simp only [sU, sL] at hinv hKL11 ⊢
 have hk := hinv
 have hl1 := pO_len c xs k
 refine gc_seq fun K12 hK12 => ?_
 refine gc_sr fun K13 hK13 => ?_
 refine gm ?_
 refine gv (qtf Try.underlying44 (z := 0) (off := 0)) ?_
 refine gv (qtl Try.underlying2 (n := 0)) ?_
 refine gv (qt_lss rfl rfl rfl) ?_
 refine gnt (hK13 _ _ ?_)
 refine gc_cond rfl (fun hc0 => ?_) (fun hc0 => ?_)
 ·try simp only [sA] at hc0
  refine gc_skip ?_
  refine gk_then (hK12 _ _ ?_)
  refine gc_seq fun K14 hK14 => ?_
  refine gc_block ?_
  refine gc_sr fun K15 hK15 => ?_
  refine gm ?_
  refine gv (qtf Try.underlying44 (z := 0) (off := 3)) ?_
  refine gv (qtl Try.underlying22 (n := 0)) ?_
  refine gm ?_
  refine gv (qti (fun w M => lenA_rd h3)) ?_
  refine gv (qtd (fun w M => mem_rd M h3)) ?_
  refine g_q (.free rfl) rfl rfl (qt_call rfl Try.func105 rfl (by decide) rfl (fun w M => specHas2_any w _ _ _ (mem_rd M hu))) ?_
  refine gnt (hK15 _ _ ?_)
  refine gc_cond rfl (fun hc1 => ?_) (fun hc1 => ?_)
  ·try simp only [sA] at hc1
   refine gc_region ?_
   refine gm ?_
   refine gm ?_
   refine gop fun K17 hK17 => ?_
   refine go_slice1 rfl rfl rfl rfl Try.underlying22 ?_
   intro B16
   refine hK17 _ _ ?_
   refine gop fun K19 hK19 => ?_
   refine go_append (n := 2) (m := 3) rfl rfl rfl Try.underlying22 rfl rfl rfl rfl (by omega) ?_
   intro va18 vc18
   refine hK19 _ _ ?_
   refine gas ?_
   refine g_nil ?_
   refine gk_block ?_
   refine gk_then (hK14 _ _ ?_)
   refine gc_region ?_
   refine gm ?_
   refine gv (qt_add rfl rfl rfl (by omega)) ?_
   refine gas ?_
   refine g_nil ?_
   simp only [pO_t (bP_t' hc1)]
   refine gk_then (gk_take 3 ?_)
   refine gk_sub ?hs_20 (hKL11 (k + 1, _, _) ?hi_20 ?hm_20)
   case hs_20 => repeat first | exact sub_nil | refine sub_cons rfl ?_
   case hi_20 => omega
   case hm_20 => omega
  ·try simp only [sA] at hc1
   refine gc_skip ?_
   refine gk_block ?_
   refine gk_then (hK14 _ _ ?_)
   refine gc_region ?_
   refine gm ?_
   refine gv (qt_add rfl rfl rfl (by omega)) ?_
   refine gas ?_
   refine g_nil ?_
   rw [pO_f (bP_f' hc1)]
   refine gk_then (gk_take 3 ?_)
   refine gk_sub ?hs_21 (hKL11 (k + 1, _, _) ?hi_21 ?hm_21)
   case hs_21 => repeat first | exact sub_nil | refine sub_cons rfl ?_
   case hi_21 => omega
   case hm_21 => omega
 ·try simp only [sA] at hc0
  refine gc_exit ?_
  refine gk_then_exit ?_
  refine gk_then_exit ?_
  refine gk_block_hit ?_
  refine gk_then (hK9 _ _ ?_)
  refine gc_seq fun K22 hK22 => ?_
  obtain rfl : k = c.e.length := by omega
  refine gc_region ?_
  refine gm ?_
  refine gv (qln (fun w M => lenV_own1 (n := 2) rfl M)) ?_
  refine gop fun K24 hK24 => ?_
  refine go_slice0 rfl rfl rfl Try.underlying22 ?_
  intro B23
  refine hK24 _ _ ?_
  refine gop fun K26 hK26 => ?_
  refine go_slice0 rfl rfl rfl Try.underlying22 ?_
  intro B25
  refine hK26 _ _ ?_
  refine gop fun K28 hK28 => ?_
  refine go_slice0 rfl rfl rfl Try.underlying22 ?_
  intro B27
  refine hK28 _ _ ?_
  refine gop fun K30 hK30 => ?_
  refine go_sliceR0 rfl rfl rfl Try.underlying32 ?_
  intro B29
  refine hK30 _ _ ?_
  refine gv (qt_build rfl rfl bt_Category) ?_
  refine gop fun K32 hK32 => ?_
  refine go_alloc (z := (.agg #[.int .i64 0, .slice none 0 0, .slice none 0 0, .slice none 0 0, .slice none 0 0])) (cs := [.int .i64 0, .slice none 0 0, .slice none 0 0, .slice none 0 0, .slice none 0 0]) rfl rfl rfl (fun w => by kernel_rfl) rfl ?_
  intro B31
  refine hK32 _ _ ?_
  refine gop fun K33 hK33 => ?_
  refine go_storeS (n := 7) rfl rfl rfl rfl (by kernel_rfl) rfl rfl rfl ?_
  refine hK33 _ _ ?_
  refine gnt (hK22 _ _ ?_)
  refine gc_seq fun K34 hK34 => ?_
  refine gc_sr fun K35 hK35 => ?_
  refine gas ?_
  refine gnt (hK35 _ _ ?_)
  refine gc_block ?_
  simp only [show pO c xs c.e.length = pOb c xs from rfl]
  try simp only [sL]
  refine gc_loopT ([(0, _), (1, _), (2, _), (4, _), (5, _), (6, _), (7, _), (16, _)] : Env) (fun s : Nat × (Option Addr) × Nat => (fun (k : Nat) (b : Option Addr) (r : Nat) => (([(8, .int .i64 (k : Int))] : Env), ([(5, own1I (.slice b (tabTo (fun i => idxI xs (at0 c.e (at0 (pOb c xs) (i : Int)))) k).length r) (tabTo (fun i => idxI xs (at0 c.e (at0 (pOb c xs) (i : Int)))) k)), (7, bxI B31 44 [.int .i64 (pOb c xs).length, .slice (some ⟨B23, 0, none⟩) 0 0, .slice (some ⟨B25, 0, none⟩) 0 0, .slice b (tabTo (fun i => idxI xs (at0 c.e (at0 (pOb c xs) (i : Int)))) k).length r, .slice (some ⟨B29, 0, none⟩) 0 0])] : List (Nat × Itm)), k ≤ (pOb c xs).length, (pOb c xs).length - k)) s.1 s.2.1 s.2.2) (0, _, _) (by repeat first | exact sub_nil | refine sub_cons rfl ?_) rfl (Nat.zero_le _) ?_
  rintro ⟨k, b, r⟩ hinv KL36 hKL36
  simp only [sU, sL] at hinv hKL36 ⊢
  have hk := hinv
  have hl2 := tabTo_len (fun i => idxI xs (at0 c.e (at0 (pOb c xs) (i : Int)))) k
  refine gc_seq fun K37 hK37 => ?_
  refine gc_sr fun K38 hK38 => ?_
  refine gm ?_
  refine gm ?_
  refine gv (qln (fun w M => lenV_own1 (n := 2) rfl M)) ?_
  refine gv (qt_lss rfl rfl rfl) ?_
  refine gnt (hK38 _ _ ?_)
  refine gc_cond rfl (fun hc2 => ?_) (fun hc2 => ?_)
  ·try simp only [sA] at hc2
   refine gc_skip ?_
   refine gk_then (hK37 _ _ ?_)
   refine gc_seq fun K39 hK39 => ?_
   refine gc_block ?_
   have ho := pO_at (c := c) (xs := xs) (k := k) (by omega)
   have o1 := ho.1; have o2 := ho.2
   try simp only [sL]
   refine ga_start _ (fun w M => mem_erase 5 (mem_erase 7 (M))) ?_
   refine gav 0 rfl (qtf Try.underlying44 (z := 0) (off := 3)) ?_
   refine gav 2 rfl (qt_move rfl rfl) ?_
   refine gav 3 rfl (qtf Try.underlying44 (z := 0) (off := 3)) ?_
   refine gav 4 rfl (qtl Try.underlying22 (n := 0)) ?_
   refine gav 5 rfl (qt_move rfl rfl) ?_
   refine gav 6 rfl (qt_move rfl rfl) ?_
   refine gav 7 rfl (qti (fun w M => lenA_own1 (n := 2) rfl M)) ?_
   refine gav 8 rfl (qtd (fun w M => (mem_own1 (n := 2) M rfl).rd)) ?_
   refine gav 9 rfl (qti (fun w M => lenA_rd h3)) ?_
   refine gav 10 rfl (qtd (fun w M => mem_rd M h3)) ?_
   refine ga_two 1 11 (by kernel_rfl) rfl rfl (.free rfl) (.free rfl) (fun K40 hK40 => ?_) (fun K40 hK40 => ?_)
   ·refine gov (qtl Try.underlying22 (n := 7)) ?_
    refine hK40 _ _ (fun w M => (mem_erase 5 (mem_erase 7 (mem_take 8 M)) :)) ?_
    refine gao 11 fun K42 hK42 => ?_
    refine go_q rfl rfl (qt_call rfl Try.func101 rfl (by decide) rfl (fun w M => specIndex_any w _ _ _ (mem_rd M hu))) ?_
    refine hK42 _ _ (fun w M => (mem_erase 5 (mem_erase 7 (mem_take 8 M)) :)) ?_
    refine gao 12 fun K44 hK44 => ?_
    refine go_slice1 rfl rfl rfl rfl Try.underlying22 ?_
    intro B43
    refine hK44 _ _ (fun w M => (mem_erase 5 (mem_erase 7 (mem_take 8 M)) :)) ?_
    refine gao 13 fun K46 hK46 => ?_
    refine go_append (n := 5) (m := 8) rfl rfl rfl Try.underlying22 rfl rfl rfl rfl (by omega) ?_
    intro va45 vc45
    refine hK46 _ _ (fun w M => (mem_erase 5 (mem_erase 7 (mem_take 8 M)) :)) ?_
    refine gav 14 rfl (qtf Try.underlying44 (z := 0) (off := 3)) ?_
    refine gao 15 fun K47 hK47 => ?_
    refine go_storeB (n := 7) rfl rfl rfl rfl (by kernel_rfl) rfl rfl rfl (by first | decide | simp) ?_
    refine hK47 _ _ (fun w M => (mem_erase 5 (mem_erase 7 (mem_take 8 M)) :)) ?_
    refine ga_done (by kernel_rfl) ?_
    refine gk_block ?_
    refine gk_then (hK39 _ _ ?_)
    refine gc_region ?_
    refine gm ?_
    refine gv (qt_add rfl rfl rfl (by omega)) ?_
    refine gas ?_
    refine g_nil ?_
    simp only [tabTo_succ]
    refine gk_then (gk_take 8 ?_)
    refine gk_sub ?hs_48 (hKL36 (k + 1, _, _) ?hi_48 ?hm_48)
    case hs_48 => repeat first | exact sub_nil | refine sub_cons rfl ?_
    case hi_48 => omega
    case hm_48 => omega
   ·refine go_q rfl rfl (qt_call rfl Try.func101 rfl (by decide) rfl (fun w M => specIndex_any w _ _ _ (mem_rd M hu))) ?_
    refine hK40 _ _ (fun w M => (mem_erase 5 (mem_erase 7 (mem_take 8 M)) :)) ?_
    refine ga_two 1 12 (by kernel_rfl) rfl rfl (.free rfl) (.free rfl) (fun K50 hK50 => ?_) (fun K50 hK50 => ?_)
    ·refine gov (qtl Try.underlying22 (n := 7)) ?_
     refine hK50 _ _ (fun w M => (mem_erase 5 (mem_erase 7 (mem_take 8 M)) :)) ?_
     refine gao 12 fun K53 hK53 => ?_
     refine go_slice1 rfl rfl rfl rfl Try.underlying22 ?_
     intro B52
     refine hK53 _ _ (fun w M => (mem_erase 5 (mem_erase 7 (mem_take 8 M)) :)) ?_
     refine gao 13 fun K55 hK55 => ?_
     refine go_append (n := 5) (m := 8) rfl rfl rfl Try.underlying22 rfl rfl rfl rfl (by omega) ?_
     intro va54 vc54
     refine hK55 _ _ (fun w M => (mem_erase 5 (mem_erase 7 (mem_take 8 M)) :)) ?_
     refine gav 14 rfl (qtf Try.underlying44 (z := 0) (off := 3)) ?_
     refine gao 15 fun K56 hK56 => ?_
     refine go_storeB (n := 7) rfl rfl rfl rfl (by kernel_rfl) rfl rfl rfl (by first | decide | simp) ?_
     refine hK56 _ _ (fun w M => (mem_erase 5 (mem_erase 7 (mem_take 8 M)) :)) ?_
     refine ga_done (by kernel_rfl) ?_
     refine gk_block ?_
     refine gk_then (hK39 _ _ ?_)
     refine gc_region ?_
     refine gm ?_
     refine gv (qt_add rfl rfl rfl (by omega)) ?_
     refine gas ?_
     refine g_nil ?_
     simp only [tabTo_succ]
     refine gk_then (gk_take 8 ?_)
     refine gk_sub ?hs_57 (hKL36 (k + 1, _, _) ?hi_57 ?hm_57)
     case hs_57 => repeat first | exact sub_nil | refine sub_cons rfl ?_
     case hi_57 => omega
     case hm_57 => omega
    ·refine go_slice1 rfl rfl rfl rfl Try.underlying22 ?_
     intro B58
     refine hK50 _ _ (fun w M => (mem_erase 5 (mem_erase 7 (mem_take 8 M)) :)) ?_
     refine gao 1 fun K60 hK60 => ?_
     refine gov (qtl Try.underlying22 (n := 7)) ?_
     refine hK60 _ _ (fun w M => (mem_erase 5 (mem_erase 7 (mem_take 8 M)) :)) ?_
     refine gao 13 fun K62 hK62 => ?_
     refine go_append (n := 5) (m := 8) rfl rfl rfl Try.underlying22 rfl rfl rfl rfl (by omega) ?_
     intro va61 vc61
     refine hK62 _ _ (fun w M => (mem_erase 5 (mem_erase 7 (mem_take 8 M)) :)) ?_
     refine gav 14 rfl (qtf Try.underlying44 (z := 0) (off := 3)) ?_
     refine gao 15 fun K63 hK63 => ?_
     refine go_storeB (n := 7) rfl rfl rfl rfl (by kernel_rfl) rfl rfl rfl (by first | decide | simp) ?_
     refine hK63 _ _ (fun w M => (mem_erase 5 (mem_erase 7 (mem_take 8 M)) :)) ?_
     refine ga_done (by kernel_rfl) ?_
     refine gk_block ?_
     refine gk_then (hK39 _ _ ?_)
     refine gc_region ?_
     refine gm ?_
     refine gv (qt_add rfl rfl rfl (by omega)) ?_
     refine gas ?_
     refine g_nil ?_
     simp only [tabTo_succ]
     refine gk_then (gk_take 8 ?_)
     refine gk_sub ?hs_64 (hKL36 (k + 1, _, _) ?hi_64 ?hm_64)
     case hs_64 => repeat first | exact sub_nil | refine sub_cons rfl ?_
     case hi_64 => omega
     case hm_64 => omega
  ·try simp only [sA] at hc2
   refine gc_exit ?_
   refine gk_then_exit ?_
   refine gk_then_exit ?_
   refine gk_block_hit ?_
   refine gk_then (hK34 _ _ ?_)
   refine gc_seq fun K65 hK65 => ?_
   refine gc_sr fun K66 hK66 => ?_
   refine gas ?_
   refine gnt (hK66 _ _ ?_)
   refine gc_block ?_
   obtain rfl : k = (pOb c xs).length := by omega
   try simp only [sL]
   refine gc_loopT ([(0, _), (1, _), (2, _), (4, _), (5, _), (6, _), (7, _), (8, _), (16, _), (40, _)] : Env) (fun s : Nat × (Option Addr) × Nat × (Option Addr) × Nat × (Option Addr) × Nat × (List Value) => (fun (k : Nat) (a1 : Option Addr) (q1 : Nat) (a2 : Option Addr) (q2 : Nat) (a4 : Option Addr) (q4 : Nat) (us : List Value) => (([(9, .int .i64 (k : Int))] : Env), ([(3, own1I (.slice a1 (tabTo (fun i => idxI (pOb c xs) (at0 c.s (at0 xs (i : Int)))) k).length q1) (tabTo (fun i => idxI (pOb c xs) (at0 c.s (at0 xs (i : Int)))) k)), (4, own1I (.slice a2 (tabTo (fun i => idxI (pOb c xs) (at0 c.t (at0 xs (i : Int)))) k).length q2) (tabTo (fun i => idxI (pOb c xs) (at0 c.t (at0 xs (i : Int)))) k)), (6, own2U (.slice a4 (rowsTo (fun i => tabTo (fun j => idxI xs (c.th (at0 xs (i : Int)) (at0 xs (j : Int)))) xs.length) k).length q4) us (rowsTo (fun i => tabTo (fun j => idxI xs (c.th (at0 xs (i : Int)) (at0 xs (j : Int)))) xs.length) k)), (7, bxI B31 44 [.int .i64 (pOb c xs).length, .slice a1 (tabTo (fun i => idxI (pOb c xs) (at0 c.s (at0 xs (i : Int)))) k).length q1, .slice a2 (tabTo (fun i => idxI (pOb c xs) (at0 c.t (at0 xs (i : Int)))) k).length q2, .slice b (tabTo (fun i => idxI xs (at0 c.e (at0 (pOb c xs) (i : Int)))) (pOb c xs).length).length r, .slice a4 (rowsTo (fun i => tabTo (fun j => idxI xs (c.th (at0 xs (i : Int)) (at0 xs (j : Int)))) xs.length) k).length q4])] : List (Nat × Itm)), k ≤ xs.length, xs.length - k)) s.1 s.2.1 s.2.2.1 s.2.2.2.1 s.2.2.2.2.1 s.2.2.2.2.2.1 s.2.2.2.2.2.2.1 s.2.2.2.2.2.2.2) (0, _, _, _, _, _, _, _) (by repeat first | exact sub_nil | refine sub_cons rfl ?_) rfl (Nat.zero_le _) ?_
   rintro ⟨k, a1, q1, a2, q2, a4, q4, us⟩ hinv KL67 hKL67
   simp only [sU, sL] at hinv hKL67 ⊢
   have hk := hinv
   have hm1 := tabTo_len (fun i => idxI (pOb c xs) (at0 c.s (at0 xs (i : Int)))) k
   have hm2 := tabTo_len (fun i => idxI (pOb c xs) (at0 c.t (at0 xs (i : Int)))) k
   have hm4 := rowsTo_len (fun i => tabTo (fun j => idxI xs (c.th (at0 xs (i : Int)) (at0 xs (j : Int)))) xs.length) k
   refine gc_seq fun K68 hK68 => ?_
   refine gc_sr fun K69 hK69 => ?_
   refine gm ?_
   refine gm ?_
   refine gv (qln (fun w M => lenV_rd hu)) ?_
   refine gv (qt_lss rfl rfl rfl) ?_
   refine gnt (hK69 _ _ ?_)
   refine gc_cond rfl (fun hc3 => ?_) (fun hc3 => ?_)
   ·try simp only [sA] at hc3
    refine gc_skip ?_
    refine gk_then (hK68 _ _ ?_)
    refine gc_seq fun K70 hK70 => ?_
    refine gc_block ?_
    refine gc_seq fun K71 hK71 => ?_
    have hk1 := allP_k hx (k := k) (by omega)
    have hA := arrP hS hk1.1 hk1.2
    have a0 := hk1.1; have a1 := hk1.2; have a2 := hA.fs; have a3 := hA.fm; have a4 := hA.row; have a5 := hA.ft
    try simp only [sL]
    refine ga_start _ (fun w M => mem_erase 3 (mem_erase 7 (M))) ?_
    refine gav 0 rfl (qtf Try.underlying44 (z := 0) (off := 1)) ?_
    refine gav 2 rfl (qt_move rfl rfl) ?_
    refine gav 3 rfl (qtf Try.underlying44 (z := 0) (off := 1)) ?_
    refine gav 4 rfl (qtl Try.underlying22 (n := 0)) ?_
    refine gav 5 rfl (qt_move rfl rfl) ?_
    refine gav 6 rfl (qt_move rfl rfl) ?_
    refine gav 7 rfl (qti (fun w M => lenA_rd hu)) ?_
    refine gav 8 rfl (qtd (fun w M => mem_rd M hu)) ?_
    refine gav 9 rfl (qti (fun w M => lenA_rd h1)) ?_
    refine gav 10 rfl (qtd (fun w M => mem_rd M h1)) ?_
    refine ga_two 1 11 (by kernel_rfl) rfl rfl (.free rfl) (.free rfl) (fun K72 hK72 => ?_) (fun K72 hK72 => ?_)
    ·refine gov (qtl Try.underlying22 (n := 7)) ?_
     refine hK72 _ _ (fun w M => (mem_erase 3 (mem_erase 7 (mem_take 8 M)) :)) ?_
     refine gao 11 fun K74 hK74 => ?_
     refine go_q rfl rfl (qt_call rfl Try.func101 rfl (by decide) rfl (fun w M => specIndex_any w _ _ _ ((mem_own1 (n := 2) M rfl).rd))) ?_
     refine hK74 _ _ (fun w M => (mem_erase 3 (mem_erase 7 (mem_take 8 M)) :)) ?_
     refine gao 12 fun K76 hK76 => ?_
     refine go_slice1 rfl rfl rfl rfl Try.underlying22 ?_
     intro B75
     refine hK76 _ _ (fun w M => (mem_erase 3 (mem_erase 7 (mem_take 8 M)) :)) ?_
     refine gao 13 fun K78 hK78 => ?_
     refine go_append (n := 3) (m := 8) rfl rfl rfl Try.underlying22 rfl rfl rfl rfl (by omega) ?_
     intro va77 vc77
     refine hK78 _ _ (fun w M => (mem_erase 3 (mem_erase 7 (mem_take 8 M)) :)) ?_
     refine gav 14 rfl (qtf Try.underlying44 (z := 0) (off := 1)) ?_
     refine gao 15 fun K79 hK79 => ?_
     refine go_storeB (n := 7) rfl rfl rfl rfl (by kernel_rfl) rfl rfl rfl (by first | decide | simp) ?_
     refine hK79 _ _ (fun w M => (mem_erase 3 (mem_erase 7 (mem_take 8 M)) :)) ?_
     refine ga_done (by kernel_rfl) ?_
     refine gk_then (hK71 _ _ ?_)
     refine gc_seq fun K80 hK80 => ?_
     try simp only [sL]
     refine ga_start _ (fun w M => mem_erase 4 (mem_erase 7 (M))) ?_
     refine gav 0 rfl (qtf Try.underlying44 (z := 0) (off := 2)) ?_
     refine gav 2 rfl (qt_move rfl rfl) ?_
     refine gav 3 rfl (qtf Try.underlying44 (z := 0) (off := 2)) ?_
     refine gav 4 rfl (qtl Try.underlying22 (n := 0)) ?_
     refine gav 5 rfl (qt_move rfl rfl) ?_
     refine gav 6 rfl (qt_move rfl rfl) ?_
     refine gav 7 rfl (qti (fun w M => lenA_rd hu)) ?_
     refine gav 8 rfl (qtd (fun w M => mem_rd M hu)) ?_
     refine gav 9 rfl (qti (fun w M => lenA_rd h2)) ?_
     refine gav 10 rfl (qtd (fun w M => mem_rd M h2)) ?_
     refine ga_two 1 11 (by kernel_rfl) rfl rfl (.free rfl) (.free rfl) (fun K81 hK81 => ?_) (fun K81 hK81 => ?_)
     ·refine gov (qtl Try.underlying22 (n := 7)) ?_
      refine hK81 _ _ (fun w M => (mem_erase 4 (mem_erase 7 (mem_take 9 M)) :)) ?_
      refine gao 11 fun K83 hK83 => ?_
      refine go_q rfl rfl (qt_call rfl Try.func101 rfl (by decide) rfl (fun w M => specIndex_any w _ _ _ ((mem_own1 (n := 2) M rfl).rd))) ?_
      refine hK83 _ _ (fun w M => (mem_erase 4 (mem_erase 7 (mem_take 9 M)) :)) ?_
      refine gao 12 fun K85 hK85 => ?_
      refine go_slice1 rfl rfl rfl rfl Try.underlying22 ?_
      intro B84
      refine hK85 _ _ (fun w M => (mem_erase 4 (mem_erase 7 (mem_take 9 M)) :)) ?_
      refine gao 13 fun K87 hK87 => ?_
      refine go_append (n := 4) (m := 9) rfl rfl rfl Try.underlying22 rfl rfl rfl rfl (by omega) ?_
      intro va86 vc86
      refine hK87 _ _ (fun w M => (mem_erase 4 (mem_erase 7 (mem_take 9 M)) :)) ?_
      refine gav 14 rfl (qtf Try.underlying44 (z := 0) (off := 2)) ?_
      refine gao 15 fun K88 hK88 => ?_
      refine go_storeB (n := 7) rfl rfl rfl rfl (by kernel_rfl) rfl rfl rfl (by first | decide | simp) ?_
      refine hK88 _ _ (fun w M => (mem_erase 4 (mem_erase 7 (mem_take 9 M)) :)) ?_
      refine ga_done (by kernel_rfl) ?_
      refine gk_then (hK80 _ _ ?_)
      refine gc_sr fun K89 hK89 => ?_
      refine gop fun K91 hK91 => ?_
      refine go_slice0 rfl rfl rfl Try.underlying22 ?_
      intro B90
      refine hK91 _ _ ?_
      refine gas ?_
      refine gnt (hK89 _ _ ?_)
      refine gc_seq fun K92 hK92 => ?_
      refine gc_sr fun K93 hK93 => ?_
      refine gas ?_
      refine gnt (hK93 _ _ ?_)
      refine gc_block ?_
      simp only [tabTo_succ]
      try simp only [sL]
      refine gc_loopT ([(0, _), (1, _), (2, _), (4, _), (5, _), (6, _), (7, _), (8, _), (9, _), (16, _), (40, _), (61, _)] : Env) (fun s : Nat × (Option Addr) × Nat => (fun (l : Nat) (e : Option Addr) (z : Nat) => (([(10, .slice e (tabTo (fun j => idxI xs (c.th (at0 xs (k : Int)) (at0 xs (j : Int)))) l).length z), (11, .int .i64 (l : Int))] : Env), ([(10, own1I (.slice e (tabTo (fun j => idxI xs (c.th (at0 xs (k : Int)) (at0 xs (j : Int)))) l).length z) (tabTo (fun j => idxI xs (c.th (at0 xs (k : Int)) (at0 xs (j : Int)))) l))] : List (Nat × Itm)), l ≤ xs.length, xs.length - l)) s.1 s.2.1 s.2.2) (0, _, _) (by repeat first | exact sub_nil | refine sub_cons rfl ?_) rfl (Nat.zero_le _) ?_
      rintro ⟨l, e, z⟩ hinv KL94 hKL94
      simp only [sU, sL] at hinv hKL94 ⊢
      have hl3 := hinv
      have hl4 := tabTo_len (fun j => idxI xs (c.th (at0 xs (k : Int)) (at0 xs (j : Int)))) l
      refine gc_seq fun K95 hK95 => ?_
      refine gc_sr fun K96 hK96 => ?_
      refine gm ?_
      refine gm ?_
      refine gv (qln (fun w M => lenV_rd hu)) ?_
      refine gv (qt_lss rfl rfl rfl) ?_
      refine gnt (hK96 _ _ ?_)
      refine gc_cond rfl (fun hc4 => ?_) (fun hc4 => ?_)
      ·try simp only [sA] at hc4
       refine gc_skip ?_
       refine gk_then (hK95 _ _ ?_)
       refine gc_seq fun K97 hK97 => ?_
       refine gc_block ?_
       have hk1 := allP_k hx (k := k) (by omega)
       have hA := arrP hS hk1.1 hk1.2
       have a0 := hk1.1; have a1 := hk1.2; have a2 := hA.fs; have a3 := hA.fm; have a4 := hA.row; have a5 := hA.ft
       have hl1 := allP_k hx (k := l) (by omega)
       have b0 := hl1.1; have b1 := hl1.2
       try simp only [sL]
       refine ga_start _ (fun w M => mem_erase 10 (M)) ?_
       refine gav 0 rfl (qt_move rfl rfl) ?_
       refine gav 1 rfl (qt_move rfl rfl) ?_
       refine gav 2 rfl (qtf Try.underlying44 (z := 0) (off := 4)) ?_
       refine gav 3 rfl (qtl Try.underlying32 (n := 0)) ?_
       refine gav 4 rfl (qt_move rfl rfl) ?_
       refine gav 5 rfl (qt_move rfl rfl) ?_
       refine gav 6 rfl (qti (fun w M => lenA_rd hu)) ?_
       refine gav 7 rfl (qtd (fun w M => mem_rd M hu)) ?_
       refine gav 8 rfl (qti2 (fun w M => lenA_rd2 h4)) ?_
       refine ga_load2 9 rfl (by kernel_rfl) (by kernel_rfl) (by kernel_rfl) (.free rfl) rfl rfl rfl rfl Try.underlying22 rfl h4 (by omega) (by omega) (fun _ _ _ _ h => h) ?_
       intro ra98 rc98 hr98
       refine gav 10 rfl (qt_move rfl rfl) ?_
       refine gav 11 rfl (qt_move rfl rfl) ?_
       refine gav 12 rfl (qti (fun w M => lenA_rd hu)) ?_
       refine gav 13 rfl (qtd (fun w M => mem_rd M hu)) ?_
       refine gav 14 rfl (qti (fun w M => lenA_rd hr98)) ?_
       refine gav 15 rfl (qtd (fun w M => mem_rd M hr98)) ?_
       refine gao 16 fun K99 hK99 => ?_
       refine go_q rfl rfl (qt_call rfl Try.func101 rfl (by decide) rfl (fun w M => specIndex_any w _ _ _ (mem_rd M hu))) ?_
       refine hK99 _ _ (fun w M => (mem_erase 10 (mem_take 11 M) :)) ?_
       refine gao 17 fun K101 hK101 => ?_
       refine go_slice1 rfl rfl rfl rfl Try.underlying22 ?_
       intro B100
       refine hK101 _ _ (fun w M => (mem_erase 10 (mem_take 11 M) :)) ?_
       refine gao 18 fun K103 hK103 => ?_
       refine go_append (n := 10) (m := 11) rfl rfl rfl Try.underlying22 rfl rfl rfl rfl (by omega) ?_
       intro va102 vc102
       refine hK103 _ _ (fun w M => (mem_erase 10 (mem_take 11 M) :)) ?_
       refine gav 19 rfl (qt_assign rfl rfl) ?_
       refine ga_done (by kernel_rfl) ?_
       refine gk_block ?_
       refine gk_then (hK97 _ _ ?_)
       refine gc_region ?_
       refine gm ?_
       refine gv (qt_add rfl rfl rfl (by omega)) ?_
       refine gas ?_
       refine g_nil ?_
       simp only [show ∀ f g, at0 (row2 c.m f) g = c.th f g from fun _ _ => rfl, tabTo_succ]
       refine gk_then (gk_take 11 ?_)
       refine gk_sub ?hs_104 (hKL94 (l + 1, _, _) ?hi_104 ?hm_104)
       case hs_104 => repeat first | exact sub_nil | refine sub_cons rfl ?_
       case hi_104 => omega
       case hm_104 => omega
      ·try simp only [sA] at hc4
       refine gc_exit ?_
       refine gk_then_exit ?_
       refine gk_then_exit ?_
       refine gk_block_hit ?_
       refine gk_then (hK92 _ _ ?_)
       refine gc_region ?_
       refine gv (qtf Try.underlying44 (z := 0) (off := 4)) ?_
       refine gv (qtl Try.underlying32 (n := 7)) ?_
       refine gm ?_
       refine gop fun K106 hK106 => ?_
       refine go_sliceR1 (m := 10) rfl rfl rfl rfl Try.underlying32 rfl ?_
       intro B105
       refine hK106 _ _ ?_
       refine gop fun K108 hK108 => ?_
       refine go_appendRow (n := 6) (m := 10) (m' := 9) rfl rfl rfl Try.underlying32 rfl rfl rfl rfl rfl (by omega) ?_
       intro va107 vc107
       refine hK108 _ _ ?_
       refine gv (qtf Try.underlying44 (z := 0) (off := 4)) ?_
       refine gop fun K109 hK109 => ?_
       refine go_storeB (n := 7) rfl rfl rfl rfl (by kernel_rfl) rfl rfl rfl (by first | decide | simp) ?_
       refine hK109 _ _ ?_
       refine g_nil ?_
       refine gk_block ?_
       refine gk_then (hK70 _ _ ?_)
       refine gc_region ?_
       refine gm ?_
       refine gv (qt_add rfl rfl rfl (by omega)) ?_
       refine gas ?_
       refine g_nil ?_
       obtain rfl : l = xs.length := by omega
       simp only [rowsTo_succ]
       refine gk_then (gk_take 8 ?_)
       refine gk_sub ?hs_110 (hKL67 (k + 1, _, _, _, _, _, _, _) ?hi_110 ?hm_110)
       case hs_110 => repeat first | exact sub_nil | refine sub_cons rfl ?_
       case hi_110 => omega
       case hm_110 => omega
     ·refine go_q rfl rfl (qt_call rfl Try.func101 rfl (by decide) rfl (fun w M => specIndex_any w _ _ _ ((mem_own1 (n := 2) M rfl).rd))) ?_
      refine hK81 _ _ (fun w M => (mem_erase 4 (mem_erase 7 (mem_take 9 M)) :)) ?_
      refine ga_two 1 12 (by kernel_rfl) rfl rfl (.free rfl) (.free rfl) (fun K112 hK112 => ?_) (fun K112 hK112 => ?_)
      ·refine gov (qtl Try.underlying22 (n := 7)) ?_
       refine hK112 _ _ (fun w M => (mem_erase 4 (mem_erase 7 (mem_take 9 M)) :)) ?_
       refine gao 12 fun K115 hK115 => ?_
       refine go_slice1 rfl rfl rfl rfl Try.underlying22 ?_
       intro B114
       refine hK115 _ _ (fun w M => (mem_erase 4 (mem_erase 7 (mem_take 9 M)) :)) ?_
       refine gao 13 fun K117 hK117 => ?_
       refine go_append (n := 4) (m := 9) rfl rfl rfl Try.underlying22 rfl rfl rfl rfl (by omega) ?_
       intro va116 vc116
       refine hK117 _ _ (fun w M => (mem_erase 4 (mem_erase 7 (mem_take 9 M)) :)) ?_
       refine gav 14 rfl (qtf Try.underlying44 (z := 0) (off := 2)) ?_
       refine gao 15 fun K118 hK118 => ?_
       refine go_storeB (n := 7) rfl rfl rfl rfl (by kernel_rfl) rfl rfl rfl (by first | decide | simp) ?_
       refine hK118 _ _ (fun w M => (mem_erase 4 (mem_erase 7 (mem_take 9 M)) :)) ?_
       refine ga_done (by kernel_rfl) ?_
       refine gk_then (hK80 _ _ ?_)
       refine gc_sr fun K119 hK119 => ?_
       refine gop fun K121 hK121 => ?_
       refine go_slice0 rfl rfl rfl Try.underlying22 ?_
       intro B120
       refine hK121 _ _ ?_
       refine gas ?_
       refine gnt (hK119 _ _ ?_)
       refine gc_seq fun K122 hK122 => ?_
       refine gc_sr fun K123 hK123 => ?_
       refine gas ?_
       refine gnt (hK123 _ _ ?_)
       refine gc_block ?_
       simp only [tabTo_succ]
       try simp only [sL]
       refine gc_loopT ([(0, _), (1, _), (2, _), (4, _), (5, _), (6, _), (7, _), (8, _), (9, _), (16, _), (40, _), (61, _)] : Env) (fun s : Nat × (Option Addr) × Nat => (fun (l : Nat) (e : Option Addr) (z : Nat) => (([(10, .slice e (tabTo (fun j => idxI xs (c.th (at0 xs (k : Int)) (at0 xs (j : Int)))) l).length z), (11, .int .i64 (l : Int))] : Env), ([(10, own1I (.slice e (tabTo (fun j => idxI xs (c.th (at0 xs (k : Int)) (at0 xs (j : Int)))) l).length z) (tabTo (fun j => idxI xs (c.th (at0 xs (k : Int)) (at0 xs (j : Int)))) l))] : List (Nat × Itm)), l ≤ xs.length, xs.length - l)) s.1 s.2.1 s.2.2) (0, _, _) (by repeat first | exact sub_nil | refine sub_cons rfl ?_) rfl (Nat.zero_le _) ?_
       rintro ⟨l, e, z⟩ hinv KL124 hKL124
       simp only [sU, sL] at hinv hKL124 ⊢
       have hl3 := hinv
       have hl4 := tabTo_len (fun j => idxI xs (c.th (at0 xs (k : Int)) (at0 xs (j : Int)))) l
       refine gc_seq fun K125 hK125 => ?_
       refine gc_sr fun K126 hK126 => ?_
       refine gm ?_
       refine gm ?_
       refine gv (qln (fun w M => lenV_rd hu)) ?_
       refine gv (qt_lss rfl rfl rfl) ?_
       refine gnt (hK126 _ _ ?_)
       refine gc_cond rfl (fun hc5 => ?_) (fun hc5 => ?_)
       ·try simp only [sA] at hc5
        refine gc_skip ?_
        refine gk_then (hK125 _ _ ?_)
        refine gc_seq fun K127 hK127 => ?_
        refine gc_block ?_
        have hk1 := allP_k hx (k := k) (by omega)
        have hA := arrP hS hk1.1 hk1.2
        have a0 := hk1.1; have a1 := hk1.2; have a2 := hA.fs; have a3 := hA.fm; have a4 := hA.row; have a5 := hA.ft
        have hl1 := allP_k hx (k := l) (by omega)
        have b0 := hl1.1; have b1 := hl1.2
        try simp only [sL]
        refine ga_start _ (fun w M => mem_erase 10 (M)) ?_
        refine gav 0 rfl (qt_move rfl rfl) ?_
        refine gav 1 rfl (qt_move rfl rfl) ?_
        refine gav 2 rfl (qtf Try.underlying44 (z := 0) (off := 4)) ?_
        refine gav 3 rfl (qtl Try.underlying32 (n := 0)) ?_
        refine gav 4 rfl (qt_move rfl rfl) ?_
        refine gav 5 rfl (qt_move rfl rfl) ?_
        refine gav 6 rfl (qti (fun w M => lenA_rd hu)) ?_
        refine gav 7 rfl (qtd (fun w M => mem_rd M hu)) ?_
        refine gav 8 rfl (qti2 (fun w M => lenA_rd2 h4)) ?_
        refine ga_load2 9 rfl (by kernel_rfl) (by kernel_rfl) (by kernel_rfl) (.free rfl) rfl rfl rfl rfl Try.underlying22 rfl h4 (by omega) (by omega) (fun _ _ _ _ h => h) ?_
        intro ra128 rc128 hr128
        refine gav 10 rfl (qt_move rfl rfl) ?_
        refine gav 11 rfl (qt_move rfl rfl) ?_
        refine gav 12 rfl (qti (fun w M => lenA_rd hu)) ?_
        refine gav 13 rfl (qtd (fun w M => mem_rd M hu)) ?_
        refine gav 14 rfl (qti (fun w M => lenA_rd hr128)) ?_
        refine gav 15 rfl (qtd (fun w M => mem_rd M hr128)) ?_
        refine gao 16 fun K129 hK129 => ?_
        refine go_q rfl rfl (qt_call rfl Try.func101 rfl (by decide) rfl (fun w M => specIndex_any w _ _ _ (mem_rd M hu))) ?_
        refine hK129 _ _ (fun w M => (mem_erase 10 (mem_take 11 M) :)) ?_
        refine gao 17 fun K131 hK131 => ?_
        refine go_slice1 rfl rfl rfl rfl Try.underlying22 ?_
        intro B130
        refine hK131 _ _ (fun w M => (mem_erase 10 (mem_take 11 M) :)) ?_
        refine gao 18 fun K133 hK133 => ?_
        refine go_append (n := 10) (m := 11) rfl rfl rfl Try.underlying22 rfl rfl rfl rfl (by omega) ?_
        intro va132 vc132
        refine hK133 _ _ (fun w M => (mem_erase 10 (mem_take 11 M) :)) ?_
        refine gav 19 rfl (qt_assign rfl rfl) ?_
        refine ga_done (by kernel_rfl) ?_
        refine gk_block ?_
        refine gk_then (hK127 _ _ ?_)
        refine gc_region ?_
        refine gm ?_
        refine gv (qt_add rfl rfl rfl (by omega)) ?_
        refine gas ?_
        refine g_nil ?_
        simp only [show ∀ f g, at0 (row2 c.m f) g = c.th f g from fun _ _ => rfl, tabTo_succ]
        refine gk_then (gk_take 11 ?_)
        refine gk_sub ?hs_134 (hKL124 (l + 1, _, _) ?hi_134 ?hm_134)
        case hs_134 => repeat first | exact sub_nil | refine sub_cons rfl ?_
        case hi_134 => omega
        case hm_134 => omega
       ·try simp only [sA] at hc5
        refine gc_exit ?_
        refine gk_then_exit ?_
        refine gk_then_exit ?_
        refine gk_block_hit ?_
        refine gk_then (hK122 _ _ ?_)
        refine gc_region ?_
        refine gv (qtf Try.underlying44 (z := 0) (off := 4)) ?_
        refine gv (qtl Try.underlying32 (n := 7)) ?_
        refine gm ?_
        refine gop fun K136 hK136 => ?_
        refine go_sliceR1 (m := 10) rfl rfl rfl rfl Try.underlying32 rfl ?_
        intro B135
        refine hK136 _ _ ?_
        refine gop fun K138 hK138 => ?_
        refine go_appendRow (n := 6) (m := 10) (m' := 9) rfl rfl rfl Try.underlying32 rfl rfl rfl rfl rfl (by omega) ?_
        intro va137 vc137
        refine hK138 _ _ ?_
        refine gv (qtf Try.underlying44 (z := 0) (off := 4)) ?_
        refine gop fun K139 hK139 => ?_
        refine go_storeB (n := 7) rfl rfl rfl rfl (by kernel_rfl) rfl rfl rfl (by first | decide | simp) ?_
        refine hK139 _ _ ?_
        refine g_nil ?_
        refine gk_block ?_
        refine gk_then (hK70 _ _ ?_)
        refine gc_region ?_
        refine gm ?_
        refine gv (qt_add rfl rfl rfl (by omega)) ?_
        refine gas ?_
        refine g_nil ?_
        obtain rfl : l = xs.length := by omega
        simp only [rowsTo_succ]
        refine gk_then (gk_take 8 ?_)
        refine gk_sub ?hs_140 (hKL67 (k + 1, _, _, _, _, _, _, _) ?hi_140 ?hm_140)
        case hs_140 => repeat first | exact sub_nil | refine sub_cons rfl ?_
        case hi_140 => omega
        case hm_140 => omega
      ·refine go_slice1 rfl rfl rfl rfl Try.underlying22 ?_
       intro B141
       refine hK112 _ _ (fun w M => (mem_erase 4 (mem_erase 7 (mem_take 9 M)) :)) ?_
       refine gao 1 fun K143 hK143 => ?_
       refine gov (qtl Try.underlying22 (n := 7)) ?_
       refine hK143 _ _ (fun w M => (mem_erase 4 (mem_erase 7 (mem_take 9 M)) :)) ?_
       refine gao 13 fun K145 hK145 => ?_
       refine go_append (n := 4) (m := 9) rfl rfl rfl Try.underlying22 rfl rfl rfl rfl (by omega) ?_
       intro va144 vc144
       refine hK145 _ _ (fun w M => (mem_erase 4 (mem_erase 7 (mem_take 9 M)) :)) ?_
       refine gav 14 rfl (qtf Try.underlying44 (z := 0) (off := 2)) ?_
       refine gao 15 fun K146 hK146 => ?_
       refine go_storeB (n := 7) rfl rfl rfl rfl (by kernel_rfl) rfl rfl rfl (by first | decide | simp) ?_
       refine hK146 _ _ (fun w M => (mem_erase 4 (mem_erase 7 (mem_take 9 M)) :)) ?_
       refine ga_done (by kernel_rfl) ?_
       refine gk_then (hK80 _ _ ?_)
       refine gc_sr fun K147 hK147 => ?_
       refine gop fun K149 hK149 => ?_
       refine go_slice0 rfl rfl rfl Try.underlying22 ?_
       intro B148
       refine hK149 _ _ ?_
       refine gas ?_
       refine gnt (hK147 _ _ ?_)
       refine gc_seq fun K150 hK150 => ?_
       refine gc_sr fun K151 hK151 => ?_
       refine gas ?_
       refine gnt (hK151 _ _ ?_)
       refine gc_block ?_
       simp only [tabTo_succ]
       try simp only [sL]
       refine gc_loopT ([(0, _), (1, _), (2, _), (4, _), (5, _), (6, _), (7, _), (8, _), (9, _), (16, _), (40, _), (61, _)] : Env) (fun s : Nat × (Option Addr) × Nat => (fun (l : Nat) (e : Option Addr) (z : Nat) => (([(10, .slice e (tabTo (fun j => idxI xs (c.th (at0 xs (k : Int)) (at0 xs (j : Int)))) l).length z), (11, .int .i64 (l : Int))] : Env), ([(10, own1I (.slice e (tabTo (fun j => idxI xs (c.th (at0 xs (k : Int)) (at0 xs (j : Int)))) l).length z) (tabTo (fun j => idxI xs (c.th (at0 xs (k : Int)) (at0 xs (j : Int)))) l))] : List (Nat × Itm)), l ≤ xs.length, xs.length - l)) s.1 s.2.1 s.2.2) (0, _, _) (by repeat first | exact sub_nil | refine sub_cons rfl ?_) rfl (Nat.zero_le _) ?_
       rintro ⟨l, e, z⟩ hinv KL152 hKL152
       simp only [sU, sL] at hinv hKL152 ⊢
       have hl3 := hinv
       have hl4 := tabTo_len (fun j => idxI xs (c.th (at0 xs (k : Int)) (at0 xs (j : Int)))) l
       refine gc_seq fun K153 hK153 => ?_
       refine gc_sr fun K154 hK154 => ?_
       refine gm ?_
       refine gm ?_
       refine gv (qln (fun w M => lenV_rd hu)) ?_
       refine gv (qt_lss rfl rfl rfl) ?_
       refine gnt (hK154 _ _ ?_)
       refine gc_cond rfl (fun hc6 => ?_) (fun hc6 => ?_)
       ·try simp only [sA] at hc6
        refine gc_skip ?_
        refine gk_then (hK153 _ _ ?_)
        refine gc_seq fun K155 hK155 => ?_
        refine gc_block ?_
        have hk1 := allP_k hx (k := k) (by omega)
        have hA := arrP hS hk1.1 hk1.2
        have a0 := hk1.1; have a1 := hk1.2; have a2 := hA.fs; have a3 := hA.fm; have a4 := hA.row; have a5 := hA.ft
        have hl1 := allP_k hx (k := l) (by omega)
        have b0 := hl1.1; have b1 := hl1.2
        try simp only [sL]
        refine ga_start _ (fun w M => mem_erase 10 (M)) ?_
        refine gav 0 rfl (qt_move rfl rfl) ?_
        refine gav 1 rfl (qt_move rfl rfl) ?_
        refine gav 2 rfl (qtf Try.underlying44 (z := 0) (off := 4)) ?_
        refine gav 3 rfl (qtl Try.underlying32 (n := 0)) ?_
        refine gav 4 rfl (qt_move rfl rfl) ?_
        refine gav 5 rfl (qt_move rfl rfl) ?_
        refine gav 6 rfl (qti (fun w M => lenA_rd hu)) ?_
        refine gav 7 rfl (qtd (fun w M => mem_rd M hu)) ?_
        refine gav 8 rfl (qti2 (fun w M => lenA_rd2 h4)) ?_
        refine ga_load2 9 rfl (by kernel_rfl) (by kernel_rfl) (by kernel_rfl) (.free rfl) rfl rfl rfl rfl Try.underlying22 rfl h4 (by omega) (by omega) (fun _ _ _ _ h => h) ?_
        intro ra156 rc156 hr156
        refine gav 10 rfl (qt_move rfl rfl) ?_
        refine gav 11 rfl (qt_move rfl rfl) ?_
        refine gav 12 rfl (qti (fun w M => lenA_rd hu)) ?_
        refine gav 13 rfl (qtd (fun w M => mem_rd M hu)) ?_
        refine gav 14 rfl (qti (fun w M => lenA_rd hr156)) ?_
        refine gav 15 rfl (qtd (fun w M => mem_rd M hr156)) ?_
        refine gao 16 fun K157 hK157 => ?_
        refine go_q rfl rfl (qt_call rfl Try.func101 rfl (by decide) rfl (fun w M => specIndex_any w _ _ _ (mem_rd M hu))) ?_
        refine hK157 _ _ (fun w M => (mem_erase 10 (mem_take 11 M) :)) ?_
        refine gao 17 fun K159 hK159 => ?_
        refine go_slice1 rfl rfl rfl rfl Try.underlying22 ?_
        intro B158
        refine hK159 _ _ (fun w M => (mem_erase 10 (mem_take 11 M) :)) ?_
        refine gao 18 fun K161 hK161 => ?_
        refine go_append (n := 10) (m := 11) rfl rfl rfl Try.underlying22 rfl rfl rfl rfl (by omega) ?_
        intro va160 vc160
        refine hK161 _ _ (fun w M => (mem_erase 10 (mem_take 11 M) :)) ?_
        refine gav 19 rfl (qt_assign rfl rfl) ?_
        refine ga_done (by kernel_rfl) ?_
        refine gk_block ?_
        refine gk_then (hK155 _ _ ?_)
        refine gc_region ?_
        refine gm ?_
        refine gv (qt_add rfl rfl rfl (by omega)) ?_
        refine gas ?_
        refine g_nil ?_
        simp only [show ∀ f g, at0 (row2 c.m f) g = c.th f g from fun _ _ => rfl, tabTo_succ]
        refine gk_then (gk_take 11 ?_)
        refine gk_sub ?hs_162 (hKL152 (l + 1, _, _) ?hi_162 ?hm_162)
        case hs_162 => repeat first | exact sub_nil | refine sub_cons rfl ?_
        case hi_162 => omega
        case hm_162 => omega
       ·try simp only [sA] at hc6
        refine gc_exit ?_
        refine gk_then_exit ?_
        refine gk_then_exit ?_
        refine gk_block_hit ?_
        refine gk_then (hK150 _ _ ?_)
        refine gc_region ?_
        refine gv (qtf Try.underlying44 (z := 0) (off := 4)) ?_
        refine gv (qtl Try.underlying32 (n := 7)) ?_
        refine gm ?_
        refine gop fun K164 hK164 => ?_
        refine go_sliceR1 (m := 10) rfl rfl rfl rfl Try.underlying32 rfl ?_
        intro B163
        refine hK164 _ _ ?_
        refine gop fun K166 hK166 => ?_
        refine go_appendRow (n := 6) (m := 10) (m' := 9) rfl rfl rfl Try.underlying32 rfl rfl rfl rfl rfl (by omega) ?_
        intro va165 vc165
        refine hK166 _ _ ?_
        refine gv (qtf Try.underlying44 (z := 0) (off := 4)) ?_
        refine gop fun K167 hK167 => ?_
        refine go_storeB (n := 7) rfl rfl rfl rfl (by kernel_rfl) rfl rfl rfl (by first | decide | simp) ?_
        refine hK167 _ _ ?_
        refine g_nil ?_
        refine gk_block ?_
        refine gk_then (hK70 _ _ ?_)
        refine gc_region ?_
        refine gm ?_
        refine gv (qt_add rfl rfl rfl (by omega)) ?_
        refine gas ?_
        refine g_nil ?_
        obtain rfl : l = xs.length := by omega
        simp only [rowsTo_succ]
        refine gk_then (gk_take 8 ?_)
        refine gk_sub ?hs_168 (hKL67 (k + 1, _, _, _, _, _, _, _) ?hi_168 ?hm_168)
        case hs_168 => repeat first | exact sub_nil | refine sub_cons rfl ?_
        case hi_168 => omega
        case hm_168 => omega
    ·refine go_q rfl rfl (qt_call rfl Try.func101 rfl (by decide) rfl (fun w M => specIndex_any w _ _ _ ((mem_own1 (n := 2) M rfl).rd))) ?_
     refine hK72 _ _ (fun w M => (mem_erase 3 (mem_erase 7 (mem_take 8 M)) :)) ?_
     refine ga_two 1 12 (by kernel_rfl) rfl rfl (.free rfl) (.free rfl) (fun K170 hK170 => ?_) (fun K170 hK170 => ?_)
     ·refine gov (qtl Try.underlying22 (n := 7)) ?_
      refine hK170 _ _ (fun w M => (mem_erase 3 (mem_erase 7 (mem_take 8 M)) :)) ?_
      refine gao 12 fun K173 hK173 => ?_
      refine go_slice1 rfl rfl rfl rfl Try.underlying22 ?_
      intro B172
      refine hK173 _ _ (fun w M => (mem_erase 3 (mem_erase 7 (mem_take 8 M)) :)) ?_
      refine gao 13 fun K175 hK175 => ?_
      refine go_append (n := 3) (m := 8) rfl rfl rfl Try.underlying22 rfl rfl rfl rfl (by omega) ?_
      intro va174 vc174
      refine hK175 _ _ (fun w M => (mem_erase 3 (mem_erase 7 (mem_take 8 M)) :)) ?_
      refine gav 14 rfl (qtf Try.underlying44 (z := 0) (off := 1)) ?_
      refine gao 15 fun K176 hK176 => ?_
      refine go_storeB (n := 7) rfl rfl rfl rfl (by kernel_rfl) rfl rfl rfl (by first | decide | simp) ?_
      refine hK176 _ _ (fun w M => (mem_erase 3 (mem_erase 7 (mem_take 8 M)) :)) ?_
      refine ga_done (by kernel_rfl) ?_
      refine gk_then (hK71 _ _ ?_)
      refine gc_seq fun K177 hK177 => ?_
      try simp only [sL]
      refine ga_start _ (fun w M => mem_erase 4 (mem_erase 7 (M))) ?_
      refine gav 0 rfl (qtf Try.underlying44 (z := 0) (off := 2)) ?_
      refine gav 2 rfl (qt_move rfl rfl) ?_
      refine gav 3 rfl (qtf Try.underlying44 (z := 0) (off := 2)) ?_
      refine gav 4 rfl (qtl Try.underlying22 (n := 0)) ?_
      refine gav 5 rfl (qt_move rfl rfl) ?_
      refine gav 6 rfl (qt_move rfl rfl) ?_
      refine gav 7 rfl (qti (fun w M => lenA_rd hu)) ?_
      refine gav 8 rfl (qtd (fun w M => mem_rd M hu)) ?_
      refine gav 9 rfl (qti (fun w M => lenA_rd h2)) ?_
      refine gav 10 rfl (qtd (fun w M => mem_rd M h2)) ?_
      refine ga_two 1 11 (by kernel_rfl) rfl rfl (.free rfl) (.free rfl) (fun K178 hK178 => ?_) (fun K178 hK178 => ?_)
      ·refine gov (qtl Try.underlying22 (n := 7)) ?_
       refine hK178 _ _ (fun w M => (mem_erase 4 (mem_erase 7 (mem_take 9 M)) :)) ?_
       refine gao 11 fun K180 hK180 => ?_
       refine go_q rfl rfl (qt_call rfl Try.func101 rfl (by decide) rfl (fun w M => specIndex_any w _ _ _ ((mem_own1 (n := 2) M rfl).rd))) ?_
       refine hK180 _ _ (fun w M => (mem_erase 4 (mem_erase 7 (mem_take 9 M)) :)) ?_
       refine gao 12 fun K182 hK182 => ?_
       refine go_slice1 rfl rfl rfl rfl Try.underlying22 ?_
       intro B181
       refine hK182 _ _ (fun w M => (mem_erase 4 (mem_erase 7 (mem_take 9 M)) :)) ?_
       refine gao 13 fun K184 hK184 => ?_
       refine go_append (n := 4) (m := 9) rfl rfl rfl Try.underlying22 rfl rfl rfl rfl (by omega) ?_
       intro va183 vc183
       refine hK184 _ _ (fun w M => (mem_erase 4 (mem_erase 7 (mem_take 9 M)) :)) ?_
       refine gav 14 rfl (qtf Try.underlying44 (z := 0) (off := 2)) ?_
       refine gao 15 fun K185 hK185 => ?_
       refine go_storeB (n := 7) rfl rfl rfl rfl (by kernel_rfl) rfl rfl rfl (by first | decide | simp) ?_
       refine hK185 _ _ (fun w M => (mem_erase 4 (mem_erase 7 (mem_take 9 M)) :)) ?_
       refine ga_done (by kernel_rfl) ?_
       refine gk_then (hK177 _ _ ?_)
       refine gc_sr fun K186 hK186 => ?_
       refine gop fun K188 hK188 => ?_
       refine go_slice0 rfl rfl rfl Try.underlying22 ?_
       intro B187
       refine hK188 _ _ ?_
       refine gas ?_
       refine gnt (hK186 _ _ ?_)
       refine gc_seq fun K189 hK189 => ?_
       refine gc_sr fun K190 hK190 => ?_
       refine gas ?_
       refine gnt (hK190 _ _ ?_)
       refine gc_block ?_
       simp only [tabTo_succ]
       try simp only [sL]
       refine gc_loopT ([(0, _), (1, _), (2, _), (4, _), (5, _), (6, _), (7, _), (8, _), (9, _), (16, _), (40, _), (61, _)] : Env) (fun s : Nat × (Option Addr) × Nat => (fun (l : Nat) (e : Option Addr) (z : Nat) => (([(10, .slice e (tabTo (fun j => idxI xs (c.th (at0 xs (k : Int)) (at0 xs (j : Int)))) l).length z), (11, .int .i64 (l : Int))] : Env), ([(10, own1I (.slice e (tabTo (fun j => idxI xs (c.th (at0 xs (k : Int)) (at0 xs (j : Int)))) l).length z) (tabTo (fun j => idxI xs (c.th (at0 xs (k : Int)) (at0 xs (j : Int)))) l))] : List (Nat × Itm)), l ≤ xs.length, xs.length - l)) s.1 s.2.1 s.2.2) (0, _, _) (by repeat first | exact sub_nil | refine sub_cons rfl ?_) rfl (Nat.zero_le _) ?_
       rintro ⟨l, e, z⟩ hinv KL191 hKL191
       simp only [sU, sL] at hinv hKL191 ⊢
       have hl3 := hinv
       have hl4 := tabTo_len (fun j => idxI xs (c.th (at0 xs (k : Int)) (at0 xs (j : Int)))) l
       refine gc_seq fun K192 hK192 => ?_
       refine gc_sr fun K193 hK193 => ?_
       refine gm ?_
       refine gm ?_
       refine gv (qln (fun w M => lenV_rd hu)) ?_
       refine gv (qt_lss rfl rfl rfl) ?_
       refine gnt (hK193 _ _ ?_)
       refine gc_cond rfl (fun hc7 => ?_) (fun hc7 => ?_)
       ·try simp only [sA] at hc7
        refine gc_skip ?_
        refine gk_then (hK192 _ _ ?_)
        refine gc_seq fun K194 hK194 => ?_
        refine gc_block ?_
        have hk1 := allP_k hx (k := k) (by omega)
        have hA := arrP hS hk1.1 hk1.2
        have a0 := hk1.1; have a1 := hk1.2; have a2 := hA.fs; have a3 := hA.fm; have a4 := hA.row; have a5 := hA.ft
        have hl1 := allP_k hx (k := l) (by omega)
        have b0 := hl1.1; have b1 := hl1.2
        try simp only [sL]
        refine ga_start _ (fun w M => mem_erase 10 (M)) ?_
        refine gav 0 rfl (qt_move rfl rfl) ?_
        refine gav 1 rfl (qt_move rfl rfl) ?_
        refine gav 2 rfl (qtf Try.underlying44 (z := 0) (off := 4)) ?_
        refine gav 3 rfl (qtl Try.underlying32 (n := 0)) ?_
        refine gav 4 rfl (qt_move rfl rfl) ?_
        refine gav 5 rfl (qt_move rfl rfl) ?_
        refine gav 6 rfl (qti (fun w M => lenA_rd hu)) ?_
        refine gav 7 rfl (qtd (fun w M => mem_rd M hu)) ?_
        refine gav 8 rfl (qti2 (fun w M => lenA_rd2 h4)) ?_
        refine ga_load2 9 rfl (by kernel_rfl) (by kernel_rfl) (by kernel_rfl) (.free rfl) rfl rfl rfl rfl Try.underlying22 rfl h4 (by omega) (by omega) (fun _ _ _ _ h => h) ?_
        intro ra195 rc195 hr195
        refine gav 10 rfl (qt_move rfl rfl) ?_
        refine gav 11 rfl (qt_move rfl rfl) ?_
        refine gav 12 rfl (qti (fun w M => lenA_rd hu)) ?_
        refine gav 13 rfl (qtd (fun w M => mem_rd M hu)) ?_
        refine gav 14 rfl (qti (fun w M => lenA_rd hr195)) ?_
        refine gav 15 rfl (qtd (fun w M => mem_rd M hr195)) ?_
        refine gao 16 fun K196 hK196 => ?_
        refine go_q rfl rfl (qt_call rfl Try.func101 rfl (by decide) rfl (fun w M => specIndex_any w _ _ _ (mem_rd M hu))) ?_
        refine hK196 _ _ (fun w M => (mem_erase 10 (mem_take 11 M) :)) ?_
        refine gao 17 fun K198 hK198 => ?_
        refine go_slice1 rfl rfl rfl rfl Try.underlying22 ?_
        intro B197
        refine hK198 _ _ (fun w M => (mem_erase 10 (mem_take 11 M) :)) ?_
        refine gao 18 fun K200 hK200 => ?_
        refine go_append (n := 10) (m := 11) rfl rfl rfl Try.underlying22 rfl rfl rfl rfl (by omega) ?_
        intro va199 vc199
        refine hK200 _ _ (fun w M => (mem_erase 10 (mem_take 11 M) :)) ?_
        refine gav 19 rfl (qt_assign rfl rfl) ?_
        refine ga_done (by kernel_rfl) ?_
        refine gk_block ?_
        refine gk_then (hK194 _ _ ?_)
        refine gc_region ?_
        refine gm ?_
        refine gv (qt_add rfl rfl rfl (by omega)) ?_
        refine gas ?_
        refine g_nil ?_
        simp only [show ∀ f g, at0 (row2 c.m f) g = c.th f g from fun _ _ => rfl, tabTo_succ]
        refine gk_then (gk_take 11 ?_)
        refine gk_sub ?hs_201 (hKL191 (l + 1, _, _) ?hi_201 ?hm_201)
        case hs_201 => repeat first | exact sub_nil | refine sub_cons rfl ?_
        case hi_201 => omega
        case hm_201 => omega
       ·try simp only [sA] at hc7
        refine gc_exit ?_
        refine gk_then_exit ?_
        refine gk_then_exit ?_
        refine gk_block_hit ?_
        refine gk_then (hK189 _ _ ?_)
        refine gc_region ?_
        refine gv (qtf Try.underlying44 (z := 0) (off := 4)) ?_
        refine gv (qtl Try.underlying32 (n := 7)) ?_
        refine gm ?_
        refine gop fun K203 hK203 => ?_
        refine go_sliceR1 (m := 10) rfl rfl rfl rfl Try.underlying32 rfl ?_
        intro B202
        refine hK203 _ _ ?_
        refine gop fun K205 hK205 => ?_
        refine go_appendRow (n := 6) (m := 10) (m' := 9) rfl rfl rfl Try.underlying32 rfl rfl rfl rfl rfl (by omega) ?_
        intro va204 vc204
        refine hK205 _ _ ?_
        refine gv (qtf Try.underlying44 (z := 0) (off := 4)) ?_
        refine gop fun K206 hK206 => ?_
        refine go_storeB (n := 7) rfl rfl rfl rfl (by kernel_rfl) rfl rfl rfl (by first | decide | simp) ?_
        refine hK206 _ _ ?_
        refine g_nil ?_
        refine gk_block ?_
        refine gk_then (hK70 _ _ ?_)
        refine gc_region ?_
        refine gm ?_
        refine gv (qt_add rfl rfl rfl (by omega)) ?_
        refine gas ?_
        refine g_nil ?_
        obtain rfl : l = xs.length := by omega
        simp only [rowsTo_succ]
        refine gk_then (gk_take 8 ?_)
        refine gk_sub ?hs_207 (hKL67 (k + 1, _, _, _, _, _, _, _) ?hi_207 ?hm_207)
        case hs_207 => repeat first | exact sub_nil | refine sub_cons rfl ?_
        case hi_207 => omega
        case hm_207 => omega
      ·refine go_q rfl rfl (qt_call rfl Try.func101 rfl (by decide) rfl (fun w M => specIndex_any w _ _ _ ((mem_own1 (n := 2) M rfl).rd))) ?_
       refine hK178 _ _ (fun w M => (mem_erase 4 (mem_erase 7 (mem_take 9 M)) :)) ?_
       refine ga_two 1 12 (by kernel_rfl) rfl rfl (.free rfl) (.free rfl) (fun K209 hK209 => ?_) (fun K209 hK209 => ?_)
       ·refine gov (qtl Try.underlying22 (n := 7)) ?_
        refine hK209 _ _ (fun w M => (mem_erase 4 (mem_erase 7 (mem_take 9 M)) :)) ?_
        refine gao 12 fun K212 hK212 => ?_
        refine go_slice1 rfl rfl rfl rfl Try.underlying22 ?_
        intro B211
        refine hK212 _ _ (fun w M => (mem_erase 4 (mem_erase 7 (mem_take 9 M)) :)) ?_
        refine gao 13 fun K214 hK214 => ?_
        refine go_append (n := 4) (m := 9) rfl rfl rfl Try.underlying22 rfl rfl rfl rfl (by omega) ?_
        intro va213 vc213
        refine hK214 _ _ (fun w M => (mem_erase 4 (mem_erase 7 (mem_take 9 M)) :)) ?_
        refine gav 14 rfl (qtf Try.underlying44 (z := 0) (off := 2)) ?_
        refine gao 15 fun K215 hK215 => ?_
        refine go_storeB (n := 7) rfl rfl rfl rfl (by kernel_rfl) rfl rfl rfl (by first | decide | simp) ?_
        refine hK215 _ _ (fun w M => (mem_erase 4 (mem_erase 7 (mem_take 9 M)) :)) ?_
        refine ga_done (by kernel_rfl) ?_
        refine gk_then (hK177 _ _ ?_)
        refine gc_sr fun K216 hK216 => ?_
        refine gop fun K218 hK218 => ?_
        refine go_slice0 rfl rfl rfl Try.underlying22 ?_
        intro B217
        refine hK218 _ _ ?_
        refine gas ?_
        refine gnt (hK216 _ _ ?_)
        refine gc_seq fun K219 hK219 => ?_
        refine gc_sr fun K220 hK220 => ?_
        refine gas ?_
        refine gnt (hK220 _ _ ?_)
        refine gc_block ?_
        simp only [tabTo_succ]
        try simp only [sL]
        refine gc_loopT ([(0, _), (1, _), (2, _), (4, _), (5, _), (6, _), (7, _), (8, _), (9, _), (16, _), (40, _), (61, _)] : Env) (fun s : Nat × (Option Addr) × Nat => (fun (l : Nat) (e : Option Addr) (z : Nat) => (([(10, .slice e (tabTo (fun j => idxI xs (c.th (at0 xs (k : Int)) (at0 xs (j : Int)))) l).length z), (11, .int .i64 (l : Int))] : Env), ([(10, own1I (.slice e (tabTo (fun j => idxI xs (c.th (at0 xs (k : Int)) (at0 xs (j : Int)))) l).length z) (tabTo (fun j => idxI xs (c.th (at0 xs (k : Int)) (at0 xs (j : Int)))) l))] : List (Nat × Itm)), l ≤ xs.length, xs.length - l)) s.1 s.2.1 s.2.2) (0, _, _) (by repeat first | exact sub_nil | refine sub_cons rfl ?_) rfl (Nat.zero_le _) ?_
        rintro ⟨l, e, z⟩ hinv KL221 hKL221
        simp only [sU, sL] at hinv hKL221 ⊢
        have hl3 := hinv
        have hl4 := tabTo_len (fun j => idxI xs (c.th (at0 xs (k : Int)) (at0 xs (j : Int)))) l
        refine gc_seq fun K222 hK222 => ?_
        refine gc_sr fun K223 hK223 => ?_
        refine gm ?_
        refine gm ?_
        refine gv (qln (fun w M => lenV_rd hu)) ?_
        refine gv (qt_lss rfl rfl rfl) ?_
        refine gnt (hK223 _ _ ?_)
        refine gc_cond rfl (fun hc8 => ?_) (fun hc8 => ?_)
        ·try simp only [sA] at hc8
         refine gc_skip ?_
         refine gk_then (hK222 _ _ ?_)
         refine gc_seq fun K224 hK224 => ?_
         refine gc_block ?_
         have hk1 := allP_k hx (k := k) (by omega)
         have hA := arrP hS hk1.1 hk1.2
         have a0 := hk1.1; have a1 := hk1.2; have a2 := hA.fs; have a3 := hA.fm; have a4 := hA.row; have a5 := hA.ft
         have hl1 := allP_k hx (k := l) (by omega)
         have b0 := hl1.1; have b1 := hl1.2
         try simp only [sL]
         refine ga_start _ (fun w M => mem_erase 10 (M)) ?_
         refine gav 0 rfl (qt_move rfl rfl) ?_
         refine gav 1 rfl (qt_move rfl rfl) ?_
         refine gav 2 rfl (qtf Try.underlying44 (z := 0) (off := 4)) ?_
         refine gav 3 rfl (qtl Try.underlying32 (n := 0)) ?_
         refine gav 4 rfl (qt_move rfl rfl) ?_
         refine gav 5 rfl (qt_move rfl rfl) ?_
         refine gav 6 rfl (qti (fun w M => lenA_rd hu)) ?_
         refine gav 7 rfl (qtd (fun w M => mem_rd M hu)) ?_
         refine gav 8 rfl (qti2 (fun w M => lenA_rd2 h4)) ?_
         refine ga_load2 9 rfl (by kernel_rfl) (by kernel_rfl) (by kernel_rfl) (.free rfl) rfl rfl rfl rfl Try.underlying22 rfl h4 (by omega) (by omega) (fun _ _ _ _ h => h) ?_
         intro ra225 rc225 hr225
         refine gav 10 rfl (qt_move rfl rfl) ?_
         refine gav 11 rfl (qt_move rfl rfl) ?_
         refine gav 12 rfl (qti (fun w M => lenA_rd hu)) ?_
         refine gav 13 rfl (qtd (fun w M => mem_rd M hu)) ?_
         refine gav 14 rfl (qti (fun w M => lenA_rd hr225)) ?_
         refine gav 15 rfl (qtd (fun w M => mem_rd M hr225)) ?_
         refine gao 16 fun K226 hK226 => ?_
         refine go_q rfl rfl (qt_call rfl Try.func101 rfl (by decide) rfl (fun w M => specIndex_any w _ _ _ (mem_rd M hu))) ?_
         refine hK226 _ _ (fun w M => (mem_erase 10 (mem_take 11 M) :)) ?_
         refine gao 17 fun K228 hK228 => ?_
         refine go_slice1 rfl rfl rfl rfl Try.underlying22 ?_
         intro B227
         refine hK228 _ _ (fun w M => (mem_erase 10 (mem_take 11 M) :)) ?_
         refine gao 18 fun K230 hK230 => ?_
         refine go_append (n := 10) (m := 11) rfl rfl rfl Try.underlying22 rfl rfl rfl rfl (by omega) ?_
         intro va229 vc229
         refine hK230 _ _ (fun w M => (mem_erase 10 (mem_take 11 M) :)) ?_
         refine gav 19 rfl (qt_assign rfl rfl) ?_
         refine ga_done (by kernel_rfl) ?_
         refine gk_block ?_
         refine gk_then (hK224 _ _ ?_)
         refine gc_region ?_
         refine gm ?_
         refine gv (qt_add rfl rfl rfl (by omega)) ?_
         refine gas ?_
         refine g_nil ?_
         simp only [show ∀ f g, at0 (row2 c.m f) g = c.th f g from fun _ _ => rfl, tabTo_succ]
         refine gk_then (gk_take 11 ?_)
         refine gk_sub ?hs_231 (hKL221 (l + 1, _, _) ?hi_231 ?hm_231)
         case hs_231 => repeat first | exact sub_nil | refine sub_cons rfl ?_
         case hi_231 => omega
         case hm_231 => omega
        ·try simp only [sA] at hc8
         refine gc_exit ?_
         refine gk_then_exit ?_
         refine gk_then_exit ?_
         refine gk_block_hit ?_
         refine gk_then (hK219 _ _ ?_)
         refine gc_region ?_
         refine gv (qtf Try.underlying44 (z := 0) (off := 4)) ?_
         refine gv (qtl Try.underlying32 (n := 7)) ?_
         refine gm ?_
         refine gop fun K233 hK233 => ?_
         refine go_sliceR1 (m := 10) rfl rfl rfl rfl Try.underlying32 rfl ?_
         intro B232
         refine hK233 _ _ ?_
         refine gop fun K235 hK235 => ?_
         refine go_appendRow (n := 6) (m := 10) (m' := 9) rfl rfl rfl Try.underlying32 rfl rfl rfl rfl rfl (by omega) ?_
         intro va234 vc234
         refine hK235 _ _ ?_
         refine gv (qtf Try.underlying44 (z := 0) (off := 4)) ?_
         refine gop fun K236 hK236 => ?_
         refine go_storeB (n := 7) rfl rfl rfl rfl (by kernel_rfl) rfl rfl rfl (by first | decide | simp) ?_
         refine hK236 _ _ ?_
         refine g_nil ?_
         refine gk_block ?_
         refine gk_then (hK70 _ _ ?_)
         refine gc_region ?_
         refine gm ?_
         refine gv (qt_add rfl rfl rfl (by omega)) ?_
         refine gas ?_
         refine g_nil ?_
         obtain rfl : l = xs.length := by omega
         simp only [rowsTo_succ]
         refine gk_then (gk_take 8 ?_)
         refine gk_sub ?hs_237 (hKL67 (k + 1, _, _, _, _, _, _, _) ?hi_237 ?hm_237)
         case hs_237 => repeat first | exact sub_nil | refine sub_cons rfl ?_
         case hi_237 => omega
         case hm_237 => omega
       ·refine go_slice1 rfl rfl rfl rfl Try.underlying22 ?_
        intro B238
        refine hK209 _ _ (fun w M => (mem_erase 4 (mem_erase 7 (mem_take 9 M)) :)) ?_
        refine gao 1 fun K240 hK240 => ?_
        refine gov (qtl Try.underlying22 (n := 7)) ?_
        refine hK240 _ _ (fun w M => (mem_erase 4 (mem_erase 7 (mem_take 9 M)) :)) ?_
        refine gao 13 fun K242 hK242 => ?_
        refine go_append (n := 4) (m := 9) rfl rfl rfl Try.underlying22 rfl rfl rfl rfl (by omega) ?_
        intro va241 vc241
        refine hK242 _ _ (fun w M => (mem_erase 4 (mem_erase 7 (mem_take 9 M)) :)) ?_
        refine gav 14 rfl (qtf Try.underlying44 (z := 0) (off := 2)) ?_
        refine gao 15 fun K243 hK243 => ?_
        refine go_storeB (n := 7) rfl rfl rfl rfl (by kernel_rfl) rfl rfl rfl (by first | decide | simp) ?_
        refine hK243 _ _ (fun w M => (mem_erase 4 (mem_erase 7 (mem_take 9 M)) :)) ?_
        refine ga_done (by kernel_rfl) ?_
        refine gk_then (hK177 _ _ ?_)
        refine gc_sr fun K244 hK244 => ?_
        refine gop fun K246 hK246 => ?_
        refine go_slice0 rfl rfl rfl Try.underlying22 ?_
        intro B245
        refine hK246 _ _ ?_
        refine gas ?_
        refine gnt (hK244 _ _ ?_)
        refine gc_seq fun K247 hK247 => ?_
        refine gc_sr fun K248 hK248 => ?_
        refine gas ?_
        refine gnt (hK248 _ _ ?_)
        refine gc_block ?_
        simp only [tabTo_succ]
        try simp only [sL]
        refine gc_loopT ([(0, _), (1, _), (2, _), (4, _), (5, _), (6, _), (7, _), (8, _), (9, _), (16, _), (40, _), (61, _)] : Env) (fun s : Nat × (Option Addr) × Nat => (fun (l : Nat) (e : Option Addr) (z : Nat) => (([(10, .slice e (tabTo (fun j => idxI xs (c.th (at0 xs (k : Int)) (at0 xs (j : Int)))) l).length z), (11, .int .i64 (l : Int))] : Env), ([(10, own1I (.slice e (tabTo (fun j => idxI xs (c.th (at0 xs (k : Int)) (at0 xs (j : Int)))) l).length z) (tabTo (fun j => idxI xs (c.th (at0 xs (k : Int)) (at0 xs (j : Int)))) l))] : List (Nat × Itm)), l ≤ xs.length, xs.length - l)) s.1 s.2.1 s.2.2) (0, _, _) (by repeat first | exact sub_nil | refine sub_cons rfl ?_) rfl (Nat.zero_le _) ?_
        rintro ⟨l, e, z⟩ hinv KL249 hKL249
        simp only [sU, sL] at hinv hKL249 ⊢
        have hl3 := hinv
        have hl4 := tabTo_len (fun j => idxI xs (c.th (at0 xs (k : Int)) (at0 xs (j : Int)))) l
        refine gc_seq fun K250 hK250 => ?_
        refine gc_sr fun K251 hK251 => ?_
        refine gm ?_
        refine gm ?_
        refine gv (qln (fun w M => lenV_rd hu)) ?_
        refine gv (qt_lss rfl rfl rfl) ?_
        refine gnt (hK251 _ _ ?_)
        refine gc_cond rfl (fun hc9 => ?_) (fun hc9 => ?_)
        ·try simp only [sA] at hc9
         refine gc_skip ?_
         refine gk_then (hK250 _ _ ?_)
         refine gc_seq fun K252 hK252 => ?_
         refine gc_block ?_
         have hk1 := allP_k hx (k := k) (by omega)
         have hA := arrP hS hk1.1 hk1.2
         have a0 := hk1.1; have a1 := hk1.2; have a2 := hA.fs; have a3 := hA.fm; have a4 := hA.row; have a5 := hA.ft
         have hl1 := allP_k hx (k := l) (by omega)
         have b0 := hl1.1; have b1 := hl1.2
         try simp only [sL]
         refine ga_start _ (fun w M => mem_erase 10 (M)) ?_
         refine gav 0 rfl (qt_move rfl rfl) ?_
         refine gav 1 rfl (qt_move rfl rfl) ?_
         refine gav 2 rfl (qtf Try.underlying44 (z := 0) (off := 4)) ?_
         refine gav 3 rfl (qtl Try.underlying32 (n := 0)) ?_
         refine gav 4 rfl (qt_move rfl rfl) ?_
         refine gav 5 rfl (qt_move rfl rfl) ?_
         refine gav 6 rfl (qti (fun w M => lenA_rd hu)) ?_
         refine gav 7 rfl (qtd (fun w M => mem_rd M hu)) ?_
         refine gav 8 rfl (qti2 (fun w M => lenA_rd2 h4)) ?_
         refine ga_load2 9 rfl (by kernel_rfl) (by kernel_rfl) (by kernel_rfl) (.free rfl) rfl rfl rfl rfl Try.underlying22 rfl h4 (by omega) (by omega) (fun _ _ _ _ h => h) ?_
         intro ra253 rc253 hr253
         refine gav 10 rfl (qt_move rfl rfl) ?_
         refine gav 11 rfl (qt_move rfl rfl) ?_
         refine gav 12 rfl (qti (fun w M => lenA_rd hu)) ?_
         refine gav 13 rfl (qtd (fun w M => mem_rd M hu)) ?_
         refine gav 14 rfl (qti (fun w M => lenA_rd hr253)) ?_
         refine gav 15 rfl (qtd (fun w M => mem_rd M hr253)) ?_
         refine gao 16 fun K254 hK254 => ?_
         refine go_q rfl rfl (qt_call rfl Try.func101 rfl (by decide) rfl (fun w M => specIndex_any w _ _ _ (mem_rd M hu))) ?_
         refine hK254 _ _ (fun w M => (mem_erase 10 (mem_take 11 M) :)) ?_
         refine gao 17 fun K256 hK256 => ?_
         refine go_slice1 rfl rfl rfl rfl Try.underlying22 ?_
         intro B255
         refine hK256 _ _ (fun w M => (mem_erase 10 (mem_take 11 M) :)) ?_
         refine gao 18 fun K258 hK258 => ?_
         refine go_append (n := 10) (m := 11) rfl rfl rfl Try.underlying22 rfl rfl rfl rfl (by omega) ?_
         intro va257 vc257
         refine hK258 _ _ (fun w M => (mem_erase 10 (mem_take 11 M) :)) ?_
         refine gav 19 rfl (qt_assign rfl rfl) ?_
         refine ga_done (by kernel_rfl) ?_
         refine gk_block ?_
         refine gk_then (hK252 _ _ ?_)
         refine gc_region ?_
         refine gm ?_
         refine gv (qt_add rfl rfl rfl (by omega)) ?_
         refine gas ?_
         refine g_nil ?_
         simp only [show ∀ f g, at0 (row2 c.m f) g = c.th f g from fun _ _ => rfl, tabTo_succ]
         refine gk_then (gk_take 11 ?_)
         refine gk_sub ?hs_259 (hKL249 (l + 1, _, _) ?hi_259 ?hm_259)
         case hs_259 => repeat first | exact sub_nil | refine sub_cons rfl ?_
         case hi_259 => omega
         case hm_259 => omega
        ·try simp only [sA] at hc9
         refine gc_exit ?_
         refine gk_then_exit ?_
         refine gk_then_exit ?_
         refine gk_block_hit ?_
         refine gk_then (hK247 _ _ ?_)
         refine gc_region ?_
         refine gv (qtf Try.underlying44 (z := 0) (off := 4)) ?_
         refine gv (qtl Try.underlying32 (n := 7)) ?_
         refine gm ?_
         refine gop fun K261 hK261 => ?_
         refine go_sliceR1 (m := 10) rfl rfl rfl rfl Try.underlying32 rfl ?_
         intro B260
         refine hK261 _ _ ?_
         refine gop fun K263 hK263 => ?_
         refine go_appendRow (n := 6) (m := 10) (m' := 9) rfl rfl rfl Try.underlying32 rfl rfl rfl rfl rfl (by omega) ?_
         intro va262 vc262
         refine hK263 _ _ ?_
         refine gv (qtf Try.underlying44 (z := 0) (off := 4)) ?_
         refine gop fun K264 hK264 => ?_
         refine go_storeB (n := 7) rfl rfl rfl rfl (by kernel_rfl) rfl rfl rfl (by first | decide | simp) ?_
         refine hK264 _ _ ?_
         refine g_nil ?_
         refine gk_block ?_
         refine gk_then (hK70 _ _ ?_)
         refine gc_region ?_
         refine gm ?_
         refine gv (qt_add rfl rfl rfl (by omega)) ?_
         refine gas ?_
         refine g_nil ?_
         obtain rfl : l = xs.length := by omega
         simp only [rowsTo_succ]
         refine gk_then (gk_take 8 ?_)
         refine gk_sub ?hs_265 (hKL67 (k + 1, _, _, _, _, _, _, _) ?hi_265 ?hm_265)
         case hs_265 => repeat first | exact sub_nil | refine sub_cons rfl ?_
         case hi_265 => omega
         case hm_265 => omega
     ·refine go_slice1 rfl rfl rfl rfl Try.underlying22 ?_
      intro B266
      refine hK170 _ _ (fun w M => (mem_erase 3 (mem_erase 7 (mem_take 8 M)) :)) ?_
      refine gao 1 fun K268 hK268 => ?_
      refine gov (qtl Try.underlying22 (n := 7)) ?_
      refine hK268 _ _ (fun w M => (mem_erase 3 (mem_erase 7 (mem_take 8 M)) :)) ?_
      refine gao 13 fun K270 hK270 => ?_
      refine go_append (n := 3) (m := 8) rfl rfl rfl Try.underlying22 rfl rfl rfl rfl (by omega) ?_
      intro va269 vc269
      refine hK270 _ _ (fun w M => (mem_erase 3 (mem_erase 7 (mem_take 8 M)) :)) ?_
      refine gav 14 rfl (qtf Try.underlying44 (z := 0) (off := 1)) ?_
      refine gao 15 fun K271 hK271 => ?_
      refine go_storeB (n := 7) rfl rfl rfl rfl (by kernel_rfl) rfl rfl rfl (by first | decide | simp) ?_
      refine hK271 _ _ (fun w M => (mem_erase 3 (mem_erase 7 (mem_take 8 M)) :)) ?_
      refine ga_done (by kernel_rfl) ?_
      refine gk_then (hK71 _ _ ?_)
      refine gc_seq fun K272 hK272 => ?_
      try simp only [sL]
      refine ga_start _ (fun w M => mem_erase 4 (mem_erase 7 (M))) ?_
      refine gav 0 rfl (qtf Try.underlying44 (z := 0) (off := 2)) ?_
      refine gav 2 rfl (qt_move rfl rfl) ?_
      refine gav 3 rfl (qtf Try.underlying44 (z := 0) (off := 2)) ?_
      refine gav 4 rfl (qtl Try.underlying22 (n := 0)) ?_
      refine gav 5 rfl (qt_move rfl rfl) ?_
      refine gav 6 rfl (qt_move rfl rfl) ?_
      refine gav 7 rfl (qti (fun w M => lenA_rd hu)) ?_
      refine gav 8 rfl (qtd (fun w M => mem_rd M hu)) ?_
      refine gav 9 rfl (qti (fun w M => lenA_rd h2)) ?_
      refine gav 10 rfl (qtd (fun w M => mem_rd M h2)) ?_
      refine ga_two 1 11 (by kernel_rfl) rfl rfl (.free rfl) (.free rfl) (fun K273 hK273 => ?_) (fun K273 hK273 => ?_)
      ·refine gov (qtl Try.underlying22 (n := 7)) ?_
       refine hK273 _ _ (fun w M => (mem_erase 4 (mem_erase 7 (mem_take 9 M)) :)) ?_
       refine gao 11 fun K275 hK275 => ?_
       refine go_q rfl rfl (qt_call rfl Try.func101 rfl (by decide) rfl (fun w M => specIndex_any w _ _ _ ((mem_own1 (n := 2) M rfl).rd))) ?_
       refine hK275 _ _ (fun w M => (mem_erase 4 (mem_erase 7 (mem_take 9 M)) :)) ?_
       refine gao 12 fun K277 hK277 => ?_
       refine go_slice1 rfl rfl rfl rfl Try.underlying22 ?_
       intro B276
       refine hK277 _ _ (fun w M => (mem_erase 4 (mem_erase 7 (mem_take 9 M)) :)) ?_
       refine gao 13 fun K279 hK279 => ?_
       refine go_append (n := 4) (m := 9) rfl rfl rfl Try.underlying22 rfl rfl rfl rfl (by omega) ?_
       intro va278 vc278
       refine hK279 _ _ (fun w M => (mem_erase 4 (mem_erase 7 (mem_take 9 M)) :)) ?_
       refine gav 14 rfl (qtf Try.underlying44 (z := 0) (off := 2)) ?_
       refine gao 15 fun K280 hK280 => ?_
       refine go_storeB (n := 7) rfl rfl rfl rfl (by kernel_rfl) rfl rfl rfl (by first | decide | simp) ?_
       refine hK280 _ _ (fun w M => (mem_erase 4 (mem_erase 7 (mem_take 9 M)) :)) ?_
       refine ga_done (by kernel_rfl) ?_
       refine gk_then (hK272 _ _ ?_)
       refine gc_sr fun K281 hK281 => ?_
       refine gop fun K283 hK283 => ?_
       refine go_slice0 rfl rfl rfl Try.underlying22 ?_
       intro B282
       refine hK283 _ _ ?_
       refine gas ?_
       refine gnt (hK281 _ _ ?_)
       refine gc_seq fun K284 hK284 => ?_
       refine gc_sr fun K285 hK285 => ?_
       refine gas ?_
       refine gnt (hK285 _ _ ?_)
       refine gc_block ?_
       simp only [tabTo_succ]
       try simp only [sL]
       refine gc_loopT ([(0, _), (1, _), (2, _), (4, _), (5, _), (6, _), (7, _), (8, _), (9, _), (16, _), (40, _), (61, _)] : Env) (fun s : Nat × (Option Addr) × Nat => (fun (l : Nat) (e : Option Addr) (z : Nat) => (([(10, .slice e (tabTo (fun j => idxI xs (c.th (at0 xs (k : Int)) (at0 xs (j : Int)))) l).length z), (11, .int .i64 (l : Int))] : Env), ([(10, own1I (.slice e (tabTo (fun j => idxI xs (c.th (at0 xs (k : Int)) (at0 xs (j : Int)))) l).length z) (tabTo (fun j => idxI xs (c.th (at0 xs (k : Int)) (at0 xs (j : Int)))) l))] : List (Nat × Itm)), l ≤ xs.length, xs.length - l)) s.1 s.2.1 s.2.2) (0, _, _) (by repeat first | exact sub_nil | refine sub_cons rfl ?_) rfl (Nat.zero_le _) ?_
       rintro ⟨l, e, z⟩ hinv KL286 hKL286
       simp only [sU, sL] at hinv hKL286 ⊢
       have hl3 := hinv
       have hl4 := tabTo_len (fun j => idxI xs (c.th (at0 xs (k : Int)) (at0 xs (j : Int)))) l
       refine gc_seq fun K287 hK287 => ?_
       refine gc_sr fun K288 hK288 => ?_
       refine gm ?_
       refine gm ?_
       refine gv (qln (fun w M => lenV_rd hu)) ?_
       refine gv (qt_lss rfl rfl rfl) ?_
       refine gnt (hK288 _ _ ?_)
       refine gc_cond rfl (fun hc10 => ?_) (fun hc10 => ?_)
       ·try simp only [sA] at hc10
        refine gc_skip ?_
        refine gk_then (hK287 _ _ ?_)
        refine gc_seq fun K289 hK289 => ?_
        refine gc_block ?_
        have hk1 := allP_k hx (k := k) (by omega)
        have hA := arrP hS hk1.1 hk1.2
        have a0 := hk1.1; have a1 := hk1.2; have a2 := hA.fs; have a3 := hA.fm; have a4 := hA.row; have a5 := hA.ft
        have hl1 := allP_k hx (k := l) (by omega)
        have b0 := hl1.1; have b1 := hl1.2
        try simp only [sL]
        refine ga_start _ (fun w M => mem_erase 10 (M)) ?_
        refine gav 0 rfl (qt_move rfl rfl) ?_
        refine gav 1 rfl (qt_move rfl rfl) ?_
        refine gav 2 rfl (qtf Try.underlying44 (z := 0) (off := 4)) ?_
        refine gav 3 rfl (qtl Try.underlying32 (n := 0)) ?_
        refine gav 4 rfl (qt_move rfl rfl) ?_
        refine gav 5 rfl (qt_move rfl rfl) ?_
        refine gav 6 rfl (qti (fun w M => lenA_rd hu)) ?_
        refine gav 7 rfl (qtd (fun w M => mem_rd M hu)) ?_
        refine gav 8 rfl (qti2 (fun w M => lenA_rd2 h4)) ?_
        refine ga_load2 9 rfl (by kernel_rfl) (by kernel_rfl) (by kernel_rfl) (.free rfl) rfl rfl rfl rfl Try.underlying22 rfl h4 (by omega) (by omega) (fun _ _ _ _ h => h) ?_
        intro ra290 rc290 hr290
        refine gav 10 rfl (qt_move rfl rfl) ?_
        refine gav 11 rfl (qt_move rfl rfl) ?_
        refine gav 12 rfl (qti (fun w M => lenA_rd hu)) ?_
        refine gav 13 rfl (qtd (fun w M => mem_rd M hu)) ?_
        refine gav 14 rfl (qti (fun w M => lenA_rd hr290)) ?_
        refine gav 15 rfl (qtd (fun w M => mem_rd M hr290)) ?_
        refine gao 16 fun K291 hK291 => ?_
        refine go_q rfl rfl (qt_call rfl Try.func101 rfl (by decide) rfl (fun w M => specIndex_any w _ _ _ (mem_rd M hu))) ?_
        refine hK291 _ _ (fun w M => (mem_erase 10 (mem_take 11 M) :)) ?_
        refine gao 17 fun K293 hK293 => ?_
        refine go_slice1 rfl rfl rfl rfl Try.underlying22 ?_
        intro B292
        refine hK293 _ _ (fun w M => (mem_erase 10 (mem_take 11 M) :)) ?_
        refine gao 18 fun K295 hK295 => ?_
        refine go_append (n := 10) (m := 11) rfl rfl rfl Try.underlying22 rfl rfl rfl rfl (by omega) ?_
        intro va294 vc294
        refine hK295 _ _ (fun w M => (mem_erase 10 (mem_take 11 M) :)) ?_
        refine gav 19 rfl (qt_assign rfl rfl) ?_
        refine ga_done (by kernel_rfl) ?_
        refine gk_block ?_
        refine gk_then (hK289 _ _ ?_)
        refine gc_region ?_
        refine gm ?_
        refine gv (qt_add rfl rfl rfl (by omega)) ?_
        refine gas ?_
        refine g_nil ?_
        simp only [show ∀ f g, at0 (row2 c.m f) g = c.th f g from fun _ _ => rfl, tabTo_succ]
        refine gk_then (gk_take 11 ?_)
        refine gk_sub ?hs_296 (hKL286 (l + 1, _, _) ?hi_296 ?hm_296)
        case hs_296 => repeat first | exact sub_nil | refine sub_cons rfl ?_
        case hi_296 => omega
        case hm_296 => omega
       ·try simp only [sA] at hc10
        refine gc_exit ?_
        refine gk_then_exit ?_
        refine gk_then_exit ?_
        refine gk_block_hit ?_
        refine gk_then (hK284 _ _ ?_)
        refine gc_region ?_
        refine gv (qtf Try.underlying44 (z := 0) (off := 4)) ?_
        refine gv (qtl Try.underlying32 (n := 7)) ?_
        refine gm ?_
        refine gop fun K298 hK298 => ?_
        refine go_sliceR1 (m := 10) rfl rfl rfl rfl Try.underlying32 rfl ?_
        intro B297
        refine hK298 _ _ ?_
        refine gop fun K300 hK300 => ?_
        refine go_appendRow (n := 6) (m := 10) (m' := 9) rfl rfl rfl Try.underlying32 rfl rfl rfl rfl rfl (by omega) ?_
        intro va299 vc299
        refine hK300 _ _ ?_
        refine gv (qtf Try.underlying44 (z := 0) (off := 4)) ?_
        refine gop fun K301 hK301 => ?_
        refine go_storeB (n := 7) rfl rfl rfl rfl (by kernel_rfl) rfl rfl rfl (by first | decide | simp) ?_
        refine hK301 _ _ ?_
        refine g_nil ?_
        refine gk_block ?_
        refine gk_then (hK70 _ _ ?_)
        refine gc_region ?_
        refine gm ?_
        refine gv (qt_add rfl rfl rfl (by omega)) ?_
        refine gas ?_
        refine g_nil ?_
        obtain rfl : l = xs.length := by omega
        simp only [rowsTo_succ]
        refine gk_then (gk_take 8 ?_)
        refine gk_sub ?hs_302 (hKL67 (k + 1, _, _, _, _, _, _, _) ?hi_302 ?hm_302)
        case hs_302 => repeat first | exact sub_nil | refine sub_cons rfl ?_
        case hi_302 => omega
        case hm_302 => omega
      ·refine go_q rfl rfl (qt_call rfl Try.func101 rfl (by decide) rfl (fun w M => specIndex_any w _ _ _ ((mem_own1 (n := 2) M rfl).rd))) ?_
       refine hK273 _ _ (fun w M => (mem_erase 4 (mem_erase 7 (mem_take 9 M)) :)) ?_
       refine ga_two 1 12 (by kernel_rfl) rfl rfl (.free rfl) (.free rfl) (fun K304 hK304 => ?_) (fun K304 hK304 => ?_)
       ·refine gov (qtl Try.underlying22 (n := 7)) ?_
        refine hK304 _ _ (fun w M => (mem_erase 4 (mem_erase 7 (mem_take 9 M)) :)) ?_
        refine gao 12 fun K307 hK307 => ?_
        refine go_slice1 rfl rfl rfl rfl Try.underlying22 ?_
        intro B306
        refine hK307 _ _ (fun w M => (mem_erase 4 (mem_erase 7 (mem_take 9 M)) :)) ?_
        refine gao 13 fun K309 hK309 => ?_
        refine go_append (n := 4) (m := 9) rfl rfl rfl Try.underlying22 rfl rfl rfl rfl (by omega) ?_
        intro va308 vc308
        refine hK309 _ _ (fun w M => (mem_erase 4 (mem_erase 7 (mem_take 9 M)) :)) ?_
        refine gav 14 rfl (qtf Try.underlying44 (z := 0) (off := 2)) ?_
        refine gao 15 fun K310 hK310 => ?_
        refine go_storeB (n := 7) rfl rfl rfl rfl (by kernel_rfl) rfl rfl rfl (by first | decide | simp) ?_
        refine hK310 _ _ (fun w M => (mem_erase 4 (mem_erase 7 (mem_take 9 M)) :)) ?_
        refine ga_done (by kernel_rfl) ?_
        refine gk_then (hK272 _ _ ?_)
        refine gc_sr fun K311 hK311 => ?_
        refine gop fun K313 hK313 => ?_
        refine go_slice0 rfl rfl rfl Try.underlying22 ?_
        intro B312
        refine hK313 _ _ ?_
        refine gas ?_
        refine gnt (hK311 _ _ ?_)
        refine gc_seq fun K314 hK314 => ?_
        refine gc_sr fun K315 hK315 => ?_
        refine gas ?_
        refine gnt (hK315 _ _ ?_)
        refine gc_block ?_
        simp only [tabTo_succ]
        try simp only [sL]
        refine gc_loopT ([(0, _), (1, _), (2, _), (4, _), (5, _), (6, _), (7, _), (8, _), (9, _), (16, _), (40, _), (61, _)] : Env) (fun s : Nat × (Option Addr) × Nat => (fun (l : Nat) (e : Option Addr) (z : Nat) => (([(10, .slice e (tabTo (fun j => idxI xs (c.th (at0 xs (k : Int)) (at0 xs (j : Int)))) l).length z), (11, .int .i64 (l : Int))] : Env), ([(10, own1I (.slice e (tabTo (fun j => idxI xs (c.th (at0 xs (k : Int)) (at0 xs (j : Int)))) l).length z) (tabTo (fun j => idxI xs (c.th (at0 xs (k : Int)) (at0 xs (j : Int)))) l))] : List (Nat × Itm)), l ≤ xs.length, xs.length - l)) s.1 s.2.1 s.2.2) (0, _, _) (by repeat first | exact sub_nil | refine sub_cons rfl ?_) rfl (Nat.zero_le _) ?_
        rintro ⟨l, e, z⟩ hinv KL316 hKL316
        simp only [sU, sL] at hinv hKL316 ⊢
        have hl3 := hinv
        have hl4 := tabTo_len (fun j => idxI xs (c.th (at0 xs (k : Int)) (at0 xs (j : Int)))) l
        refine gc_seq fun K317 hK317 => ?_
        refine gc_sr fun K318 hK318 => ?_
        refine gm ?_
        refine gm ?_
        refine gv (qln (fun w M => lenV_rd hu)) ?_
        refine gv (qt_lss rfl rfl rfl) ?_
        refine gnt (hK318 _ _ ?_)
        refine gc_cond rfl (fun hc11 => ?_) (fun hc11 => ?_)
        ·try simp only [sA] at hc11
         refine gc_skip ?_
         refine gk_then (hK317 _ _ ?_)
         refine gc_seq fun K319 hK319 => ?_
         refine gc_block ?_
         have hk1 := allP_k hx (k := k) (by omega)
         have hA := arrP hS hk1.1 hk1.2
         have a0 := hk1.1; have a1 := hk1.2; have a2 := hA.fs; have a3 := hA.fm; have a4 := hA.row; have a5 := hA.ft
         have hl1 := allP_k hx (k := l) (by omega)
         have b0 := hl1.1; have b1 := hl1.2
         try simp only [sL]
         refine ga_start _ (fun w M => mem_erase 10 (M)) ?_
         refine gav 0 rfl (qt_move rfl rfl) ?_
         refine gav 1 rfl (qt_move rfl rfl) ?_
         refine gav 2 rfl (qtf Try.underlying44 (z := 0) (off := 4)) ?_
         refine gav 3 rfl (qtl Try.underlying32 (n := 0)) ?_
         refine gav 4 rfl (qt_move rfl rfl) ?_
         refine gav 5 rfl (qt_move rfl rfl) ?_
         refine gav 6 rfl (qti (fun w M => lenA_rd hu)) ?_
         refine gav 7 rfl (qtd (fun w M => mem_rd M hu)) ?_
         refine gav 8 rfl (qti2 (fun w M => lenA_rd2 h4)) ?_
         refine ga_load2 9 rfl (by kernel_rfl) (by kernel_rfl) (by kernel_rfl) (.free rfl) rfl rfl rfl rfl Try.underlying22 rfl h4 (by omega) (by omega) (fun _ _ _ _ h => h) ?_
         intro ra320 rc320 hr320
         refine gav 10 rfl (qt_move rfl rfl) ?_
         refine gav 11 rfl (qt_move rfl rfl) ?_
         refine gav 12 rfl (qti (fun w M => lenA_rd hu)) ?_
         refine gav 13 rfl (qtd (fun w M => mem_rd M hu)) ?_
         refine gav 14 rfl (qti (fun w M => lenA_rd hr320)) ?_
         refine gav 15 rfl (qtd (fun w M => mem_rd M hr320)) ?_
         refine gao 16 fun K321 hK321 => ?_
         refine go_q rfl rfl (qt_call rfl Try.func101 rfl (by decide) rfl (fun w M => specIndex_any w _ _ _ (mem_rd M hu))) ?_
         refine hK321 _ _ (fun w M => (mem_erase 10 (mem_take 11 M) :)) ?_
         refine gao 17 fun K323 hK323 => ?_
         refine go_slice1 rfl rfl rfl rfl Try.underlying22 ?_
         intro B322
         refine hK323 _ _ (fun w M => (mem_erase 10 (mem_take 11 M) :)) ?_
         refine gao 18 fun K325 hK325 => ?_
         refine go_append (n := 10) (m := 11) rfl rfl rfl Try.underlying22 rfl rfl rfl rfl (by omega) ?_
         intro va324 vc324
         refine hK325 _ _ (fun w M => (mem_erase 10 (mem_take 11 M) :)) ?_
         refine gav 19 rfl (qt_assign rfl rfl) ?_
         refine ga_done (by kernel_rfl) ?_
         refine gk_block ?_
         refine gk_then (hK319 _ _ ?_)
         refine gc_region ?_
         refine gm ?_
         refine gv (qt_add rfl rfl rfl (by omega)) ?_
         refine gas ?_
         refine g_nil ?_
         simp only [show ∀ f g, at0 (row2 c.m f) g = c.th f g from fun _ _ => rfl, tabTo_succ]
         refine gk_then (gk_take 11 ?_)
         refine gk_sub ?hs_326 (hKL316 (l + 1, _, _) ?hi_326 ?hm_326)
         case hs_326 => repeat first | exact sub_nil | refine sub_cons rfl ?_
         case hi_326 => omega
         case hm_326 => omega
        ·try simp only [sA] at hc11
         refine gc_exit ?_
         refine gk_then_exit ?_
         refine gk_then_exit ?_
         refine gk_block_hit ?_
         refine gk_then (hK314 _ _ ?_)
         refine gc_region ?_
         refine gv (qtf Try.underlying44 (z := 0) (off := 4)) ?_
         refine gv (qtl Try.underlying32 (n := 7)) ?_
         refine gm ?_
         refine gop fun K328 hK328 => ?_
         refine go_sliceR1 (m := 10) rfl rfl rfl rfl Try.underlying32 rfl ?_
         intro B327
         refine hK328 _ _ ?_
         refine gop fun K330 hK330 => ?_
         refine go_appendRow (n := 6) (m := 10) (m' := 9) rfl rfl rfl Try.underlying32 rfl rfl rfl rfl rfl (by omega) ?_
         intro va329 vc329
         refine hK330 _ _ ?_
         refine gv (qtf Try.underlying44 (z := 0) (off := 4)) ?_
         refine gop fun K331 hK331 => ?_
         refine go_storeB (n := 7) rfl rfl rfl rfl (by kernel_rfl) rfl rfl rfl (by first | decide | simp) ?_
         refine hK331 _ _ ?_
         refine g_nil ?_
         refine gk_block ?_
         refine gk_then (hK70 _ _ ?_)
         refine gc_region ?_
         refine gm ?_
         refine gv (qt_add rfl rfl rfl (by omega)) ?_
         refine gas ?_
         refine g_nil ?_
         obtain rfl : l = xs.length := by omega
         simp only [rowsTo_succ]
         refine gk_then (gk_take 8 ?_)
         refine gk_sub ?hs_332 (hKL67 (k + 1, _, _, _, _, _, _, _) ?hi_332 ?hm_332)
         case hs_332 => repeat first | exact sub_nil | refine sub_cons rfl ?_
         case hi_332 => omega
         case hm_332 => omega
       ·refine go_slice1 rfl rfl rfl rfl Try.underlying22 ?_
        intro B333
        refine hK304 _ _ (fun w M => (mem_erase 4 (mem_erase 7 (mem_take 9 M)) :)) ?_
        refine gao 1 fun K335 hK335 => ?_
        refine gov (qtl Try.underlying22 (n := 7)) ?_
        refine hK335 _ _ (fun w M => (mem_erase 4 (mem_erase 7 (mem_take 9 M)) :)) ?_
        refine gao 13 fun K337 hK337 => ?_
        refine go_append (n := 4) (m := 9) rfl rfl rfl Try.underlying22 rfl rfl rfl rfl (by omega) ?_
        intro va336 vc336
        refine hK337 _ _ (fun w M => (mem_erase 4 (mem_erase 7 (mem_take 9 M)) :)) ?_
        refine gav 14 rfl (qtf Try.underlying44 (z := 0) (off := 2)) ?_
        refine gao 15 fun K338 hK338 => ?_
        refine go_storeB (n := 7) rfl rfl rfl rfl (by kernel_rfl) rfl rfl rfl (by first | decide | simp) ?_
        refine hK338 _ _ (fun w M => (mem_erase 4 (mem_erase 7 (mem_take 9 M)) :)) ?_
        refine ga_done (by kernel_rfl) ?_
        refine gk_then (hK272 _ _ ?_)
        refine gc_sr fun K339 hK339 => ?_
        refine gop fun K341 hK341 => ?_
        refine go_slice0 rfl rfl rfl Try.underlying22 ?_
        intro B340
        refine hK341 _ _ ?_
        refine gas ?_
        refine gnt (hK339 _ _ ?_)
        refine gc_seq fun K342 hK342 => ?_
        refine gc_sr fun K343 hK343 => ?_
        refine gas ?_
        refine gnt (hK343 _ _ ?_)
        refine gc_block ?_
        simp only [tabTo_succ]
        try simp only [sL]
        refine gc_loopT ([(0, _), (1, _), (2, _), (4, _), (5, _), (6, _), (7, _), (8, _), (9, _), (16, _), (40, _), (61, _)] : Env) (fun s : Nat × (Option Addr) × Nat => (fun (l : Nat) (e : Option Addr) (z : Nat) => (([(10, .slice e (tabTo (fun j => idxI xs (c.th (at0 xs (k : Int)) (at0 xs (j : Int)))) l).length z), (11, .int .i64 (l : Int))] : Env), ([(10, own1I (.slice e (tabTo (fun j => idxI xs (c.th (at0 xs (k : Int)) (at0 xs (j : Int)))) l).length z) (tabTo (fun j => idxI xs (c.th (at0 xs (k : Int)) (at0 xs (j : Int)))) l))] : List (Nat × Itm)), l ≤ xs.length, xs.length - l)) s.1 s.2.1 s.2.2) (0, _, _) (by repeat first | exact sub_nil | refine sub_cons rfl ?_) rfl (Nat.zero_le _) ?_
        rintro ⟨l, e, z⟩ hinv KL344 hKL344
        simp only [sU, sL] at hinv hKL344 ⊢
        have hl3 := hinv
        have hl4 := tabTo_len (fun j => idxI xs (c.th (at0 xs (k : Int)) (at0 xs (j : Int)))) l
        refine gc_seq fun K345 hK345 => ?_
        refine gc_sr fun K346 hK346 => ?_
        refine gm ?_
        refine gm ?_
        refine gv (qln (fun w M => lenV_rd hu)) ?_
        refine gv (qt_lss rfl rfl rfl) ?_
        refine gnt (hK346 _ _ ?_)
        refine gc_cond rfl (fun hc12 => ?_) (fun hc12 => ?_)
        ·try simp only [sA] at hc12
         refine gc_skip ?_
         refine gk_then (hK345 _ _ ?_)
         refine gc_seq fun K347 hK347 => ?_
         refine gc_block ?_
         have hk1 := allP_k hx (k := k) (by omega)
         have hA := arrP hS hk1.1 hk1.2
         have a0 := hk1.1; have a1 := hk1.2; have a2 := hA.fs; have a3 := hA.fm; have a4 := hA.row; have a5 := hA.ft
         have hl1 := allP_k hx (k := l) (by omega)
         have b0 := hl1.1; have b1 := hl1.2
         try simp only [sL]
         refine ga_start _ (fun w M => mem_erase 10 (M)) ?_
         refine gav 0 rfl (qt_move rfl rfl) ?_
         refine gav 1 rfl (qt_move rfl rfl) ?_
         refine gav 2 rfl (qtf Try.underlying44 (z := 0) (off := 4)) ?_
         refine gav 3 rfl (qtl Try.underlying32 (n := 0)) ?_
         refine gav 4 rfl (qt_move rfl rfl) ?_
         refine gav 5 rfl (qt_move rfl rfl) ?_
         refine gav 6 rfl (qti (fun w M => lenA_rd hu)) ?_
         refine gav 7 rfl (qtd (fun w M => mem_rd M hu)) ?_
         refine gav 8 rfl (qti2 (fun w M => lenA_rd2 h4)) ?_
         refine ga_load2 9 rfl (by kernel_rfl) (by kernel_rfl) (by kernel_rfl) (.free rfl) rfl rfl rfl rfl Try.underlying22 rfl h4 (by omega) (by omega) (fun _ _ _ _ h => h) ?_
         intro ra348 rc348 hr348
         refine gav 10 rfl (qt_move rfl rfl) ?_
         refine gav 11 rfl (qt_move rfl rfl) ?_
         refine gav 12 rfl (qti (fun w M => lenA_rd hu)) ?_
         refine gav 13 rfl (qtd (fun w M => mem_rd M hu)) ?_
         refine gav 14 rfl (qti (fun w M => lenA_rd hr348)) ?_
         refine gav 15 rfl (qtd (fun w M => mem_rd M hr348)) ?_
         refine gao 16 fun K349 hK349 => ?_
         refine go_q rfl rfl (qt_call rfl Try.func101 rfl (by decide) rfl (fun w M => specIndex_any w _ _ _ (mem_rd M hu))) ?_
         refine hK349 _ _ (fun w M => (mem_erase 10 (mem_take 11 M) :)) ?_
         refine gao 17 fun K351 hK351 => ?_
         refine go_slice1 rfl rfl rfl rfl Try.underlying22 ?_
         intro B350
         refine hK351 _ _ (fun w M => (mem_erase 10 (mem_take 11 M) :)) ?_
         refine gao 18 fun K353 hK353 => ?_
         refine go_append (n := 10) (m := 11) rfl rfl rfl Try.underlying22 rfl rfl rfl rfl (by omega) ?_
         intro va352 vc352
         refine hK353 _ _ (fun w M => (mem_erase 10 (mem_take 11 M) :)) ?_
         refine gav 19 rfl (qt_assign rfl rfl) ?_
         refine ga_done (by kernel_rfl) ?_
         refine gk_block ?_
         refine gk_then (hK347 _ _ ?_)
         refine gc_region ?_
         refine gm ?_
         refine gv (qt_add rfl rfl rfl (by omega)) ?_
         refine gas ?_
         refine g_nil ?_
         simp only [show ∀ f g, at0 (row2 c.m f) g = c.th f g from fun _ _ => rfl, tabTo_succ]
         refine gk_then (gk_take 11 ?_)
         refine gk_sub ?hs_354 (hKL344 (l + 1, _, _) ?hi_354 ?hm_354)
         case hs_354 => repeat first | exact sub_nil | refine sub_cons rfl ?_
         case hi_354 => omega
         case hm_354 => omega
        ·try simp only [sA] at hc12
         refine gc_exit ?_
         refine gk_then_exit ?_
         refine gk_then_exit ?_
         refine gk_block_hit ?_
         refine gk_then (hK342 _ _ ?_)
         refine gc_region ?_
         refine gv (qtf Try.underlying44 (z := 0) (off := 4)) ?_
         refine gv (qtl Try.underlying32 (n := 7)) ?_
         refine gm ?_
         refine gop fun K356 hK356 => ?_
         refine go_sliceR1 (m := 10) rfl rfl rfl rfl Try.underlying32 rfl ?_
         intro B355
         refine hK356 _ _ ?_
         refine gop fun K358 hK358 => ?_
         refine go_appendRow (n := 6) (m := 10) (m' := 9) rfl rfl rfl Try.underlying32 rfl rfl rfl rfl rfl (by omega) ?_
         intro va357 vc357
         refine hK358 _ _ ?_
         refine gv (qtf Try.underlying44 (z := 0) (off := 4)) ?_
         refine gop fun K359 hK359 => ?_
         refine go_storeB (n := 7) rfl rfl rfl rfl (by kernel_rfl) rfl rfl rfl (by first | decide | simp) ?_
         refine hK359 _ _ ?_
         refine g_nil ?_
         refine gk_block ?_
         refine gk_then (hK70 _ _ ?_)
         refine gc_region ?_
         refine gm ?_
         refine gv (qt_add rfl rfl rfl (by omega)) ?_
         refine gas ?_
         refine g_nil ?_
         obtain rfl : l = xs.length := by omega
         simp only [rowsTo_succ]
         refine gk_then (gk_take 8 ?_)
         refine gk_sub ?hs_360 (hKL67 (k + 1, _, _, _, _, _, _, _) ?hi_360 ?hm_360)
         case hs_360 => repeat first | exact sub_nil | refine sub_cons rfl ?_
         case hi_360 => omega
         case hm_360 => omega
   ·try simp only [sA] at hc3
    refine gc_exit ?_
    refine gk_then_exit ?_
    refine gk_then_exit ?_
    refine gk_block_hit ?_
    refine gk_then (hK65 _ _ ?_)
    refine gc_sr fun K361 hK361 => ?_
    refine gv (qts Try.underlying44 (n := 7)) ?_
    refine gop fun K362 hK362 => ?_
    refine go_storeS (n := 1) rfl rfl rfl rfl (by kernel_rfl) rfl rfl rfl ?_
    refine hK362 _ _ ?_
    refine gnt (hK361 _ _ ?_)
    refine gc_ret ?_
    refine ret_S (n := 1) rfl rfl Try.underlying44 rfl (by kernel_rfl) rfl (fun w M => ?_)
    obtain rfl : k = xs.length := by omega
    simp only [pE_eq] at M ⊢
    exact ⟨_, rfl, ownC_star (c := partC c xs) (mem_pick (n := 6) (mem_pick (n := 6) (mem_pick (n := 6) (mem_pick (n := 6) (M) rfl) rfl) rfl) rfl).2, M.1⟩

set_option maxHeartbeats 1000000 in
set_option maxRecDepth 100000 in
theorem slHas_any (w : World) (u : Value) (xs : List Int) (x : Int) (hu : Rd w u xs) :
  Calls Try.prog 84 #[u, .int .i64 x] w (RetB w (bP (x ∈ xs))) := by
 obtain ⟨ua, uc, rfl⟩ := rd_form hu
 go_enter Try.func84, Try.ntmps84
 refine gc_enter (N := 9) rfl (look_cons (k := 0) rfl (look_cons (k := 1) rfl (look_nil _))) ?_
 refine gc_sr fun K1 hK1 => ?_
 refine gas ?_
 refine gnt (hK1 _ _ ?_)
 refine gc_sr fun K2 hK2 => ?_
 refine gm ?_
 refine gm ?_
 refine g_q (.free rfl) rfl rfl (qt_call rfl Try.func107 rfl (by decide) rfl (fun w M => libIndex2_any w _ _ _ (mem_rd M hu))) ?_
 refine gv (qt_geq rfl rfl rfl) ?_
 refine gas ?_
 refine gnt (hK2 _ _ ?_)
 refine gc_ret ?_
 refine ret_1 rfl rfl  (fun w M => ?_)
 rw [show bP (x ∈ xs) = decide (0 ≤ idxI xs x) from by rw [← bP_dec]; exact bP_congr idxI_0.symm]; exact ⟨rfl, M.1⟩

set_option maxHeartbeats 1000000 in
set_option maxRecDepth 100000 in
theorem objectsOf_any (w : World) (v u : Value) (c : Cat) (xs : List Int) (h : RdC w v c) (hS : ShapeP c) (hu : Rd w u xs) :
  Calls Try.prog 108 #[v, u] w (RetL w (pOb c xs)) := by
 have h0 := h
 obtain ⟨va, vb, vc, vd, ve, vf, vg, vh, rfl, h1, h2, h3, h4, _⟩ := h.lists
 obtain ⟨ua, uc, rfl⟩ := rd_form hu
 have hel := hS.el; have hob0 := hS.ob0; have hob8 := hS.ob8
 go_enter Try.func108, Try.ntmps108
 refine gc_enter (N := 25) rfl (look_cons (k := 0) rfl (look_cons (k := 1) rfl (look_nil _))) ?_
 refine gc_sr fun K1 hK1 => ?_
 refine gop fun K3 hK3 => ?_
 refine go_box rfl rfl rfl rfl rfl ?_
 intro B2
 refine hK3 _ _ ?_
 refine gas ?_
 refine gnt (hK1 _ _ ?_)
 refine gc_sr fun K4 hK4 => ?_
 refine gas ?_
 refine gnt (hK4 _ _ ?_)
 refine gc_seq fun K5 hK5 => ?_
 refine gc_sr fun K6 hK6 => ?_
 refine gv (qtf Try.underlying44 (z := 0) (off := 3)) ?_
 refine gv (qtl Try.underlying22 (n := 0)) ?_
 refine gv (qln (fun w M => lenV_rd h3)) ?_
 refine gm ?_
 refine gnt (hK6 _ _ ?_)
 refine gc_block ?_
 refine gc_nilS ?_
 try simp only [sL]
 refine gc_loopT ([(0, _), (1, _), (2, _), (4, _), (9, _), (10, _)] : Env) (fun s : Nat × (Option Addr) × Nat => (fun (k : Nat) (a : Option Addr) (q : Nat) => (([(5, .slice a (pO c xs k).length q), (11, .int .i64 (k : Int))] : Env), ([(1, own1I (.slice a (pO c xs k).length q) (pO c xs k))] : List (Nat × Itm)), k ≤ c.e.length, c.e.length - k)) s.1 s.2.1 s.2.2) (0, _, _) (by repeat first | exact sub_nil | refine sub_cons rfl ?_) rfl (Nat.zero_le _) ?_
 rintro ⟨k, a, q⟩ hinv KL7 hKL7
 simp only [sU, sL] at hinv hKL7 ⊢
 have hk := hinv
 have hl1 := pO_len c xs k
 refine gc_sr fun K8 hK8 => ?_
 refine gv (qt_lss rfl rfl rfl) ?_
 refine gnt (hK8 _ _ ?_)
 refine gc_seq fun K9 hK9 => ?_
 refine gc_cond rfl (fun hc0 => ?_) (fun hc0 => ?_)
 ·try simp only [sA] at hc0
  refine gc_skip ?_
  refine gk_then (hK9 _ _ ?_)
  refine gc_seq fun K10 hK10 => ?_
  refine gc_block ?_
  refine gc_sr fun K11 hK11 => ?_
  refine gm ?_
  refine gv (qti (fun w M => lenA_rd h3)) ?_
  refine gv (qtd (fun w M => mem_rd M h3)) ?_
  refine gas ?_
  refine gas ?_
  refine gnt (hK11 _ _ ?_)
  refine gc_sr fun K12 hK12 => ?_
  refine gm ?_
  refine gm ?_
  refine g_q (.free rfl) rfl rfl (qt_call rfl Try.func84 rfl (by decide) rfl (fun w M => slHas_any w _ _ _ (mem_rd M hu))) ?_
  refine gnt (hK12 _ _ ?_)
  refine gc_cond rfl (fun hc1 => ?_) (fun hc1 => ?_)
  ·try simp only [sA] at hc1
   refine gc_region ?_
   refine gm ?_
   refine gm ?_
   refine gop fun K14 hK14 => ?_
   refine go_slice1 rfl rfl rfl rfl Try.underlying22 ?_
   intro B13
   refine hK14 _ _ ?_
   refine gop fun K16 hK16 => ?_
   refine go_append (n := 1) (m := 2) rfl rfl rfl Try.underlying22 rfl rfl rfl rfl (by omega) ?_
   intro va15 vc15
   refine hK16 _ _ ?_
   refine gas ?_
   refine g_nil ?_
   refine gk_block ?_
   refine gk_then (hK10 _ _ ?_)
   refine gc_region ?_
   refine gv (qt_add rfl rfl rfl (by omega)) ?_
   refine gm ?_
   refine g_nil ?_
   simp only [pO_t (bP_t' hc1)]
   refine gk_then (gk_take 2 ?_)
   refine gk_sub ?hs_17 (hKL7 (k + 1, _, _) ?hi_17 ?hm_17)
   case hs_17 => repeat first | exact sub_nil | refine sub_cons rfl ?_
   case hi_17 => omega
   case hm_17 => omega
  ·try simp only [sA] at hc1
   refine gc_skip ?_
   refine gk_block ?_
   refine gk_then (hK10 _ _ ?_)
   refine gc_region ?_
   refine gv (qt_add rfl rfl rfl (by omega)) ?_
   refine gm ?_
   refine g_nil ?_
   rw [pO_f (bP_f' hc1)]
   refine gk_then (gk_take 2 ?_)
   refine gk_sub ?hs_18 (hKL7 (k + 1, _, _) ?hi_18 ?hm_18)
   case hs_18 => repeat first | exact sub_nil | refine sub_cons rfl ?_
   case hi_18 => omega
   case hm_18 => omega
 ·try simp only [sA] at hc0
  refine gc_exit ?_
  refine gk_then_exit ?_
  refine gk_then_exit ?_
  refine gk_block_hit ?_
  refine gk_then (hK5 _ _ ?_)
  refine gc_sr fun K19 hK19 => ?_
  refine gm ?_
  refine gas ?_
  refine gnt (hK19 _ _ ?_)
  refine gc_ret ?_
  refine ret_1 rfl rfl  (fun w M => ?_)
  obtain rfl : k = c.e.length := by omega
  simp only [show pO c xs c.e.length = pOb c xs from rfl] at M ⊢
  exact ⟨_, rfl, mem_own1 (n := 1) M rfl, M.1⟩

set_option maxHeartbeats 1000000 in
set_option maxRecDepth 100000 in
theorem restricted_any (w : World) (v u : Value) (c : Cat) (xs : List Int) (h : RdC w v c) (hS : ShapeP c) (hu : Rd w u xs) (hx : AllP c.s.length xs) (hl : xs.length ≤ 40) :
  Calls Try.prog 85 #[v, u] w (RetC w (partC c xs)) := by
 have h0 := h
 obtain ⟨va, vb, vc, vd, ve, vf, vg, vh, rfl, h1, h2, h3, h4, _⟩ := h.lists
 obtain ⟨ua, uc, rfl⟩ := rd_form hu
 have hn40 := hS.n40; have htl := hS.tl; have hel := hS.el; have hob0 := hS.ob0; have hob8 := hS.ob8; have hml := hS.ml
 have hoL := pO_len c xs c.e.length
 have hoB : (pOb c xs).length ≤ c.e.length := hoL
 go_enter Try.func85, Try.ntmps85
 refine gc_enter (N := 97) rfl (look_cons (k := 0) rfl (look_cons (k := 1) rfl (look_nil _))) ?_
 refine gc_sr fun K1 hK1 => ?_
 refine gop fun K3 hK3 => ?_
 refine go_box rfl rfl rfl rfl rfl ?_
 intro B2
 refine hK3 _ _ ?_
 refine gop fun K5 hK5 => ?_
 refine go_alloc (z := (.agg #[.int .i64 0, .slice none 0 0, .slice none 0 0, .slice none 0 0, .slice none 0 0])) (cs := [.int .i64 0, .slice none 0 0, .slice none 0 0, .slice none 0 0, .slice none 0 0]) rfl rfl rfl (fun w => by kernel_rfl) rfl ?_
 intro B4
 refine hK5 _ _ ?_
 refine gnt (hK1 _ _ ?_)
 refine gc_sr fun K6 hK6 => ?_
 refine gv (qts Try.underlying44 (n := 0)) ?_
 refine gm ?_
 refine gop fun K8 hK8 => ?_
 refine go_callL rfl rfl rfl Try.func108 rfl (by decide) rfl (fun w M => objectsOf_any w _ _ _ _ (mem_rdC M h0) (by first | assumption | omega) (mem_rd M hu)) ?_
 intro va7 vc7
 refine hK8 _ _ ?_
 refine gas ?_
 refine gnt (hK6 _ _ ?_)
 refine gc_sr fun K9 hK9 => ?_
 refine gm ?_
 refine gv (qln (fun w M => lenV_own1 (n := 2) rfl M)) ?_
 refine gv (qt_build rfl rfl btp0_Category) ?_
 refine gop fun K11 hK11 => ?_
 refine go_alloc (z := (.agg #[.int .i64 0, .slice none 0 0, .slice none 0 0, .slice none 0 0, .slice none 0 0])) (cs := [.int .i64 0, .slice none 0 0, .slice none 0 0, .slice none 0 0, .slice none 0 0]) rfl rfl rfl (fun w => by kernel_rfl) rfl ?_
 intro B10
 refine hK11 _ _ ?_
 refine gop fun K12 hK12 => ?_
 refine go_storeS (n := 3) rfl rfl rfl rfl (by kernel_rfl) rfl rfl rfl ?_
 refine hK12 _ _ ?_
 refine gnt (hK9 _ _ ?_)
 refine gc_seq fun K13 hK13 => ?_
 refine gc_sr fun K14 hK14 => ?_
 refine gm ?_
 refine gv (qln (fun w M => lenV_own1 (n := 2) rfl M)) ?_
 refine gm ?_
 refine gnt (hK14 _ _ ?_)
 refine gc_block ?_
 refine gc_nilS ?_
 try simp only [sL]
 refine gc_loopT ([(0, _), (1, _), (2, _), (4, _), (5, _), (6, _), (20, _), (21, _)] : Env) (fun s : Nat × (Option Addr) × Nat => (fun (k : Nat) (b : Option Addr) (r : Nat) => (([(22, .int .i64 (k : Int))] : Env), ([(3, bxI B10 44 [.int .i64 (pOb c xs).length, .slice none 0 0, .slice none 0 0, .slice b (tabTo (fun i => idxI xs (at0 c.e (at0 (pOb c xs) (i : Int)))) k).length r, .slice none 0 0]), (4, own1I (.slice b (tabTo (fun i => idxI xs (at0 c.e (at0 (pOb c xs) (i : Int)))) k).length r) (tabTo (fun i => idxI xs (at0 c.e (at0 (pOb c xs) (i : Int)))) k))] : List (Nat × Itm)), k ≤ (pOb c xs).length, (pOb c xs).length - k)) s.1 s.2.1 s.2.2) (0, _, _) (by repeat first | exact sub_nil | refine sub_cons rfl ?_) rfl (Nat.zero_le _) ?_
 rintro ⟨k, b, r⟩ hinv KL15 hKL15
 simp only [sU, sL] at hinv hKL15 ⊢
 have hk := hinv
 have hl2 := tabTo_len (fun i => idxI xs (at0 c.e (at0 (pOb c xs) (i : Int)))) k
 refine gc_sr fun K16 hK16 => ?_
 refine gv (qt_lss rfl rfl rfl) ?_
 refine gnt (hK16 _ _ ?_)
 refine gc_seq fun K17 hK17 => ?_
 refine gc_cond rfl (fun hc0 => ?_) (fun hc0 => ?_)
 ·try simp only [sA] at hc0
  refine gc_skip ?_
  refine gk_then (hK17 _ _ ?_)
  refine gc_seq fun K18 hK18 => ?_
  refine gc_block ?_
  refine gc_sr fun K19 hK19 => ?_
  refine gv (qti (fun w M => lenA_own1 (n := 2) rfl M)) ?_
  refine gv (qtd (fun w M => (mem_own1 (n := 2) M rfl).rd)) ?_
  refine gas ?_
  refine gnt (hK19 _ _ ?_)
  have ho := pO_at (c := c) (xs := xs) (k := k) (by omega)
  have o1 := ho.1; have o2 := ho.2
  try simp only [sL]
  refine ga_start _ (fun w M => mem_erase 3 (mem_erase 4 (M))) ?_
  refine gav 0 rfl (qtf Try.underlying44 (z := 0) (off := 3)) ?_
  refine gav 2 rfl (qt_move rfl rfl) ?_
  refine gav 3 rfl (qtf Try.underlying44 (z := 0) (off := 3)) ?_
  refine gav 4 rfl (qtl Try.underlying22 (n := 0)) ?_
  refine gav 5 rfl (qt_move rfl rfl) ?_
  refine gav 6 rfl (qti (fun w M => lenA_rd h3)) ?_
  refine gav 7 rfl (qtd (fun w M => mem_rd M h3)) ?_
  refine ga_two 1 8 (by kernel_rfl) rfl rfl (.free rfl) (.free rfl) (fun K20 hK20 => ?_) (fun K20 hK20 => ?_)
  ·refine gov (qtl Try.underlying22 (n := 3)) ?_
   refine hK20 _ _ (fun w M => (mem_erase 3 (mem_erase 4 (mem_take 5 M)) :)) ?_
   refine gao 8 fun K22 hK22 => ?_
   refine go_q rfl rfl (qt_call rfl Try.func109 rfl (by decide) rfl (fun w M => placeIn_any w _ _ _ (mem_rd M hu))) ?_
   refine hK22 _ _ (fun w M => (mem_erase 3 (mem_erase 4 (mem_take 5 M)) :)) ?_
   refine gao 9 fun K24 hK24 => ?_
   refine go_slice1 rfl rfl rfl rfl Try.underlying22 ?_
   intro B23
   refine hK24 _ _ (fun w M => (mem_erase 3 (mem_erase 4 (mem_take 5 M)) :)) ?_
   refine gao 10 fun K26 hK26 => ?_
   refine go_append (n := 4) (m := 5) rfl rfl rfl Try.underlying22 rfl rfl rfl rfl (by omega) ?_
   intro va25 vc25
   refine hK26 _ _ (fun w M => (mem_erase 3 (mem_erase 4 (mem_take 5 M)) :)) ?_
   refine gav 11 rfl (qtf Try.underlying44 (z := 0) (off := 3)) ?_
   refine gao 12 fun K27 hK27 => ?_
   refine go_storeB (n := 3) rfl rfl rfl rfl (by kernel_rfl) rfl rfl rfl (by first | decide | simp) ?_
   refine hK27 _ _ (fun w M => (mem_erase 3 (mem_erase 4 (mem_take 5 M)) :)) ?_
   refine ga_done (by kernel_rfl) ?_
   refine gk_block ?_
   refine gk_then (hK18 _ _ ?_)
   refine gc_region ?_
   refine gv (qt_add rfl rfl rfl (by omega)) ?_
   refine gm ?_
   refine g_nil ?_
   simp only [tabTo_succ]
   refine gk_then (gk_take 5 ?_)
   refine gk_sub ?hs_28 (hKL15 (k + 1, _, _) ?hi_28 ?hm_28)
   case hs_28 => repeat first | exact sub_nil | refine sub_cons rfl ?_
   case hi_28 => omega
   case hm_28 => omega
  ·refine go_q rfl rfl (qt_call rfl Try.func109 rfl (by decide) rfl (fun w M => placeIn_any w _ _ _ (mem_rd M hu))) ?_
   refine hK20 _ _ (fun w M => (mem_erase 3 (mem_erase 4 (mem_take 5 M)) :)) ?_
   refine ga_two 1 9 (by kernel_rfl) rfl rfl (.free rfl) (.free rfl) (fun K30 hK30 => ?_) (fun K30 hK30 => ?_)
   ·refine gov (qtl Try.underlying22 (n := 3)) ?_
    refine hK30 _ _ (fun w M => (mem_erase 3 (mem_erase 4 (mem_take 5 M)) :)) ?_
    refine gao 9 fun K33 hK33 => ?_
    refine go_slice1 rfl rfl rfl rfl Try.underlying22 ?_
    intro B32
    refine hK33 _ _ (fun w M => (mem_erase 3 (mem_erase 4 (mem_take 5 M)) :)) ?_
    refine gao 10 fun K35 hK35 => ?_
    refine go_append (n := 4) (m := 5) rfl rfl rfl Try.underlying22 rfl rfl rfl rfl (by omega) ?_
    intro va34 vc34
    refine hK35 _ _ (fun w M => (mem_erase 3 (mem_erase 4 (mem_take 5 M)) :)) ?_
    refine gav 11 rfl (qtf Try.underlying44 (z := 0) (off := 3)) ?_
    refine gao 12 fun K36 hK36 => ?_
    refine go_storeB (n := 3) rfl rfl rfl rfl (by kernel_rfl) rfl rfl rfl (by first | decide | simp) ?_
    refine hK36 _ _ (fun w M => (mem_erase 3 (mem_erase 4 (mem_take 5 M)) :)) ?_
    refine ga_done (by kernel_rfl) ?_
    refine gk_block ?_
    refine gk_then (hK18 _ _ ?_)
    refine gc_region ?_
    refine gv (qt_add rfl rfl rfl (by omega)) ?_
    refine gm ?_
    refine g_nil ?_
    simp only [tabTo_succ]
    refine gk_then (gk_take 5 ?_)
    refine gk_sub ?hs_37 (hKL15 (k + 1, _, _) ?hi_37 ?hm_37)
    case hs_37 => repeat first | exact sub_nil | refine sub_cons rfl ?_
    case hi_37 => omega
    case hm_37 => omega
   ·refine go_slice1 rfl rfl rfl rfl Try.underlying22 ?_
    intro B38
    refine hK30 _ _ (fun w M => (mem_erase 3 (mem_erase 4 (mem_take 5 M)) :)) ?_
    refine gao 1 fun K40 hK40 => ?_
    refine gov (qtl Try.underlying22 (n := 3)) ?_
    refine hK40 _ _ (fun w M => (mem_erase 3 (mem_erase 4 (mem_take 5 M)) :)) ?_
    refine gao 10 fun K42 hK42 => ?_
    refine go_append (n := 4) (m := 5) rfl rfl rfl Try.underlying22 rfl rfl rfl rfl (by omega) ?_
    intro va41 vc41
    refine hK42 _ _ (fun w M => (mem_erase 3 (mem_erase 4 (mem_take 5 M)) :)) ?_
    refine gav 11 rfl (qtf Try.underlying44 (z := 0) (off := 3)) ?_
    refine gao 12 fun K43 hK43 => ?_
    refine go_storeB (n := 3) rfl rfl rfl rfl (by kernel_rfl) rfl rfl rfl (by first | decide | simp) ?_
    refine hK43 _ _ (fun w M => (mem_erase 3 (mem_erase 4 (mem_take 5 M)) :)) ?_
    refine ga_done (by kernel_rfl) ?_
    refine gk_block ?_
    refine gk_then (hK18 _ _ ?_)
    refine gc_region ?_
    refine gv (qt_add rfl rfl rfl (by omega)) ?_
    refine gm ?_
    refine g_nil ?_
    simp only [tabTo_succ]
    refine gk_then (gk_take 5 ?_)
    refine gk_sub ?hs_44 (hKL15 (k + 1, _, _) ?hi_44 ?hm_44)
    case hs_44 => repeat first | exact sub_nil | refine sub_cons rfl ?_
    case hi_44 => omega
    case hm_44 => omega
 ·try simp only [sA] at hc0
  refine gc_exit ?_
  refine gk_then_exit ?_
  refine gk_then_exit ?_
  refine gk_block_hit ?_
  refine gk_then (hK13 _ _ ?_)
  refine gc_seq fun K45 hK45 => ?_
  refine gc_sr fun K46 hK46 => ?_
  refine gm ?_
  refine gv (qln (fun w M => lenV_rd hu)) ?_
  refine gm ?_
  refine gnt (hK46 _ _ ?_)
  refine gc_block ?_
  refine gc_nilS ?_
  refine gc_nilS ?_
  refine gc_nilU ?_
  obtain rfl : k = (pOb c xs).length := by omega
  try simp only [sL]
  refine gc_loopT ([(0, _), (1, _), (2, _), (4, _), (5, _), (6, _), (20, _), (21, _), (22, _), (23, _), (39, _), (40, _)] : Env) (fun s : Nat × (Option Addr) × Nat × (Option Addr) × Nat × (Option Addr) × Nat × (List Value) => (fun (k : Nat) (a1 : Option Addr) (q1 : Nat) (a2 : Option Addr) (q2 : Nat) (a4 : Option Addr) (q4 : Nat) (us : List Value) => (([(41, .int .i64 (k : Int))] : Env), ([(3, bxI B10 44 [.int .i64 (pOb c xs).length, .slice a1 (tabTo (fun i => idxI (pOb c xs) (at0 c.s (at0 xs (i : Int)))) k).length q1, .slice a2 (tabTo (fun i => idxI (pOb c xs) (at0 c.t (at0 xs (i : Int)))) k).length q2, .slice b (tabTo (fun i => idxI xs (at0 c.e (at0 (pOb c xs) (i : Int)))) (pOb c xs).length).length r, .slice a4 (rowsTo (fun i => tabTo (fun j => idxI xs (c.th (at0 xs (i : Int)) (at0 xs (j : Int)))) xs.length) k).length q4]), (5, own1I (.slice a1 (tabTo (fun i => idxI (pOb c xs) (at0 c.s (at0 xs (i : Int)))) k).length q1) (tabTo (fun i => idxI (pOb c xs) (at0 c.s (at0 xs (i : Int)))) k)), (6, own1I (.slice a2 (tabTo (fun i => idxI (pOb c xs) (at0 c.t (at0 xs (i : Int)))) k).length q2) (tabTo (fun i => idxI (pOb c xs) (at0 c.t (at0 xs (i : Int)))) k)), (7, own2U (.slice a4 (rowsTo (fun i => tabTo (fun j => idxI xs (c.th (at0 xs (i : Int)) (at0 xs (j : Int)))) xs.length) k).length q4) us (rowsTo (fun i => tabTo (fun j => idxI xs (c.th (at0 xs (i : Int)) (at0 xs (j : Int)))) xs.length) k))] : List (Nat × Itm)), k ≤ xs.length, xs.length - k)) s.1 s.2.1 s.2.2.1 s.2.2.2.1 s.2.2.2.2.1 s.2.2.2.2.2.1 s.2.2.2.2.2.2.1 s.2.2.2.2.2.2.2) (0, _, _, _, _, _, _, _) (by repeat first | exact sub_nil | refine sub_cons rfl ?_) rfl (Nat.zero_le _) ?_
  rintro ⟨k, a1, q1, a2, q2, a4, q4, us⟩ hinv KL47 hKL47
  simp only [sU, sL] at hinv hKL47 ⊢
  have hk := hinv
  have hm1 := tabTo_len (fun i => idxI (pOb c xs) (at0 c.s (at0 xs (i : Int)))) k
  have hm2 := tabTo_len (fun i => idxI (pOb c xs) (at0 c.t (at0 xs (i : Int)))) k
  have hm4 := rowsTo_len (fun i => tabTo (fun j => idxI xs (c.th (at0 xs (i : Int)) (at0 xs (j : Int)))) xs.length) k
  refine gc_sr fun K48 hK48 => ?_
  refine gv (qt_lss rfl rfl rfl) ?_
  refine gnt (hK48 _ _ ?_)
  refine gc_seq fun K49 hK49 => ?_
  refine gc_cond rfl (fun hc1 => ?_) (fun hc1 => ?_)
  ·try simp only [sA] at hc1
   refine gc_skip ?_
   refine gk_then (hK49 _ _ ?_)
   refine gc_seq fun K50 hK50 => ?_
   refine gc_block ?_
   refine gc_sr fun K51 hK51 => ?_
   refine gv (qti (fun w M => lenA_rd hu)) ?_
   refine gv (qtd (fun w M => mem_rd M hu)) ?_
   refine gas ?_
   refine gnt (hK51 _ _ ?_)
   refine gc_seq fun K52 hK52 => ?_
   have hk1 := allP_k hx (k := k) (by omega)
   have hA := arrP hS hk1.1 hk1.2
   have a0 := hk1.1; have a1 := hk1.2; have a2 := hA.fs; have a3 := hA.fm; have a4 := hA.row; have a5 := hA.ft
   try simp only [sL]
   refine ga_start _ (fun w M => mem_erase 3 (mem_erase 5 (M))) ?_
   refine gav 0 rfl (qtf Try.underlying44 (z := 0) (off := 1)) ?_
   refine gav 2 rfl (qt_move rfl rfl) ?_
   refine gav 3 rfl (qtf Try.underlying44 (z := 0) (off := 1)) ?_
   refine gav 4 rfl (qtl Try.underlying22 (n := 0)) ?_
   refine gav 5 rfl (qt_move rfl rfl) ?_
   refine gav 6 rfl (qti (fun w M => lenA_rd h1)) ?_
   refine gav 7 rfl (qtd (fun w M => mem_rd M h1)) ?_
   refine ga_two 1 8 (by kernel_rfl) rfl rfl (.free rfl) (.free rfl) (fun K53 hK53 => ?_) (fun K53 hK53 => ?_)
   ·refine gov (qtl Try.underlying22 (n := 3)) ?_
    refine hK53 _ _ (fun w M => (mem_erase 3 (mem_erase 5 (mem_take 8 M)) :)) ?_
    refine gao 8 fun K55 hK55 => ?_
    refine go_q rfl rfl (qt_call rfl Try.func109 rfl (by decide) rfl (fun w M => placeIn_any w _ _ _ ((mem_own1 (n := 2) M rfl).rd))) ?_
    refine hK55 _ _ (fun w M => (mem_erase 3 (mem_erase 5 (mem_take 8 M)) :)) ?_
    refine gao 9 fun K57 hK57 => ?_
    refine go_slice1 rfl rfl rfl rfl Try.underlying22 ?_
    intro B56
    refine hK57 _ _ (fun w M => (mem_erase 3 (mem_erase 5 (mem_take 8 M)) :)) ?_
    refine gao 10 fun K59 hK59 => ?_
    refine go_append (n := 5) (m := 8) rfl rfl rfl Try.underlying22 rfl rfl rfl rfl (by omega) ?_
    intro va58 vc58
    refine hK59 _ _ (fun w M => (mem_erase 3 (mem_erase 5 (mem_take 8 M)) :)) ?_
    refine gav 11 rfl (qtf Try.underlying44 (z := 0) (off := 1)) ?_
    refine gao 12 fun K60 hK60 => ?_
    refine go_storeB (n := 3) rfl rfl rfl rfl (by kernel_rfl) rfl rfl rfl (by first | decide | simp) ?_
    refine hK60 _ _ (fun w M => (mem_erase 3 (mem_erase 5 (mem_take 8 M)) :)) ?_
    refine ga_done (by kernel_rfl) ?_
    refine gk_then (hK52 _ _ ?_)
    refine gc_seq fun K61 hK61 => ?_
    try simp only [sL]
    refine ga_start _ (fun w M => mem_erase 3 (mem_erase 6 (M))) ?_
    refine gav 0 rfl (qtf Try.underlying44 (z := 0) (off := 2)) ?_
    refine gav 2 rfl (qt_move rfl rfl) ?_
    refine gav 3 rfl (qtf Try.underlying44 (z := 0) (off := 2)) ?_
    refine gav 4 rfl (qtl Try.underlying22 (n := 0)) ?_
    refine gav 5 rfl (qt_move rfl rfl) ?_
    refine gav 6 rfl (qti (fun w M => lenA_rd h2)) ?_
    refine gav 7 rfl (qtd (fun w M => mem_rd M h2)) ?_
    refine ga_two 1 8 (by kernel_rfl) rfl rfl (.free rfl) (.free rfl) (fun K62 hK62 => ?_) (fun K62 hK62 => ?_)
    ·refine gov (qtl Try.underlying22 (n := 3)) ?_
     refine hK62 _ _ (fun w M => (mem_erase 3 (mem_erase 6 (mem_take 9 M)) :)) ?_
     refine gao 8 fun K64 hK64 => ?_
     refine go_q rfl rfl (qt_call rfl Try.func109 rfl (by decide) rfl (fun w M => placeIn_any w _ _ _ ((mem_own1 (n := 2) M rfl).rd))) ?_
     refine hK64 _ _ (fun w M => (mem_erase 3 (mem_erase 6 (mem_take 9 M)) :)) ?_
     refine gao 9 fun K66 hK66 => ?_
     refine go_slice1 rfl rfl rfl rfl Try.underlying22 ?_
     intro B65
     refine hK66 _ _ (fun w M => (mem_erase 3 (mem_erase 6 (mem_take 9 M)) :)) ?_
     refine gao 10 fun K68 hK68 => ?_
     refine go_append (n := 6) (m := 9) rfl rfl rfl Try.underlying22 rfl rfl rfl rfl (by omega) ?_
     intro va67 vc67
     refine hK68 _ _ (fun w M => (mem_erase 3 (mem_erase 6 (mem_take 9 M)) :)) ?_
     refine gav 11 rfl (qtf Try.underlying44 (z := 0) (off := 2)) ?_
     refine gao 12 fun K69 hK69 => ?_
     refine go_storeB (n := 3) rfl rfl rfl rfl (by kernel_rfl) rfl rfl rfl (by first | decide | simp) ?_
     refine hK69 _ _ (fun w M => (mem_erase 3 (mem_erase 6 (mem_take 9 M)) :)) ?_
     refine ga_done (by kernel_rfl) ?_
     refine gk_then (hK61 _ _ ?_)
     refine gc_sr fun K70 hK70 => ?_
     refine gm ?_
     refine gv (qln (fun w M => lenV_rd hu)) ?_
     refine gop fun K72 hK72 => ?_
     refine go_make1 rfl rfl rfl Try.underlying22 rfl rfl (by omega) ?_
     intro B71
     refine hK72 _ _ ?_
     refine gas ?_
     refine gnt (hK70 _ _ ?_)
     refine gc_seq fun K73 hK73 => ?_
     refine gc_sr fun K74 hK74 => ?_
     refine gm ?_
     refine gv (qln (fun w M => lenV_rd hu)) ?_
     refine gm ?_
     refine gnt (hK74 _ _ ?_)
     refine gc_block ?_
     simp only [tabTo_succ]
     rw [fillTo_zero (fun j => idxI xs (c.th (at0 xs (k : Int)) (at0 xs (j : Int)))) xs.length]
     try simp only [sL]
     refine gc_loopT ([(0, _), (1, _), (2, _), (4, _), (5, _), (6, _), (10, _), (11, _), (20, _), (21, _), (22, _), (23, _), (39, _), (40, _), (41, _), (42, _), (72, _), (73, _)] : Env) (fun s : Nat => (fun (l : Nat) => (([(74, .int .i64 (l : Int))] : Env), ([(10, own1I (.slice (some ⟨B71, 0, none⟩) xs.length xs.length) (fillTo (fun j => idxI xs (c.th (at0 xs (k : Int)) (at0 xs (j : Int)))) xs.length l))] : List (Nat × Itm)), l ≤ xs.length, xs.length - l)) s) (0) (by repeat first | exact sub_nil | refine sub_cons rfl ?_) rfl (Nat.zero_le _) ?_
     rintro l hinv KL75 hKL75
     simp only [sU, sL] at hinv hKL75 ⊢
     have hl3 := hinv
     have hl4 := fillTo_len (fun j => idxI xs (c.th (at0 xs (k : Int)) (at0 xs (j : Int)))) xs.length l
     refine gc_sr fun K76 hK76 => ?_
     refine gv (qt_lss rfl rfl rfl) ?_
     refine gnt (hK76 _ _ ?_)
     refine gc_seq fun K77 hK77 => ?_
     refine gc_cond rfl (fun hc2 => ?_) (fun hc2 => ?_)
     ·try simp only [sA] at hc2
      refine gc_skip ?_
      refine gk_then (hK77 _ _ ?_)
      refine gc_seq fun K78 hK78 => ?_
      refine gc_block ?_
      refine gc_sr fun K79 hK79 => ?_
      refine gm ?_
      refine gv (qti (fun w M => lenA_rd hu)) ?_
      refine gv (qtd (fun w M => mem_rd M hu)) ?_
      refine gas ?_
      refine gas ?_
      refine gnt (hK79 _ _ ?_)
      have hk1 := allP_k hx (k := k) (by omega)
      have hA := arrP hS hk1.1 hk1.2
      have a0 := hk1.1; have a1 := hk1.2; have a2 := hA.fs; have a3 := hA.fm; have a4 := hA.row; have a5 := hA.ft
      have hl1 := allP_k hx (k := l) (by omega)
      have b0 := hl1.1; have b1 := hl1.2
      refine gc_region ?_
      refine gm ?_
      refine gm ?_
      refine gm ?_
      refine gv (qts Try.underlying44 (n := 0)) ?_
      refine gm ?_
      refine gm ?_
      refine g_q (.free rfl) rfl rfl (qt_call rfl Try.func110 rfl (by decide) rfl (fun w M => then_any w _ _ _ _ (mem_rdC M h0) (by first | assumption | omega) (by first | assumption | omega) (by first | assumption | omega) (by first | assumption | omega))) ?_
      refine g_q (.free rfl) rfl rfl (qt_call rfl Try.func109 rfl (by decide) rfl (fun w M => placeIn_any w _ _ _ (mem_rd M hu))) ?_
      refine gv (qti (fun w M => lenA_own1 (n := 10) rfl M)) ?_
      refine gop fun K80 hK80 => ?_
      refine go_store1 (n := 10) rfl rfl rfl rfl (by kernel_rfl) rfl (by omega) (by omega) ?_
      refine hK80 _ _ ?_
      refine g_nil ?_
      refine gk_block ?_
      refine gk_then (hK78 _ _ ?_)
      refine gc_region ?_
      refine gv (qt_add rfl rfl rfl (by omega)) ?_
      refine gm ?_
      refine g_nil ?_
      rw [fillTo_set (fun j => idxI xs (c.th (at0 xs (k : Int)) (at0 xs (j : Int)))) (by omega)]
      refine gk_then (gk_take 11 ?_)
      refine gk_sub ?hs_81 (hKL75 (l + 1) ?hi_81 ?hm_81)
      case hs_81 => repeat first | exact sub_nil | refine sub_cons rfl ?_
      case hi_81 => omega
      case hm_81 => omega
     ·try simp only [sA] at hc2
      refine gc_exit ?_
      refine gk_then_exit ?_
      refine gk_then_exit ?_
      refine gk_block_hit ?_
      refine gk_then (hK73 _ _ ?_)
      refine gc_region ?_
      refine gv (qtf Try.underlying44 (z := 0) (off := 4)) ?_
      refine gv (qtl Try.underlying32 (n := 3)) ?_
      refine gm ?_
      refine gop fun K83 hK83 => ?_
      refine go_sliceR1 (m := 10) rfl rfl rfl rfl Try.underlying32 rfl ?_
      intro B82
      refine hK83 _ _ ?_
      refine gop fun K85 hK85 => ?_
      refine go_appendRow (n := 7) (m := 10) (m' := 9) rfl rfl rfl Try.underlying32 rfl rfl rfl rfl rfl (by omega) ?_
      intro va84 vc84
      refine hK85 _ _ ?_
      refine gv (qtf Try.underlying44 (z := 0) (off := 4)) ?_
      refine gop fun K86 hK86 => ?_
      refine go_storeB (n := 3) rfl rfl rfl rfl (by kernel_rfl) rfl rfl rfl (by first | decide | simp) ?_
      refine hK86 _ _ ?_
      refine g_nil ?_
      refine gk_block ?_
      refine gk_then (hK50 _ _ ?_)
      refine gc_region ?_
      refine gv (qt_add rfl rfl rfl (by omega)) ?_
      refine gm ?_
      refine g_nil ?_
      obtain rfl : l = xs.length := by omega
      simp only [fillTo_end, rowsTo_succ]
      refine gk_then (gk_take 8 ?_)
      refine gk_sub ?hs_87 (hKL47 (k + 1, _, _, _, _, _, _, _) ?hi_87 ?hm_87)
      case hs_87 => repeat first | exact sub_nil | refine sub_cons rfl ?_
      case hi_87 => omega
      case hm_87 => omega
    ·refine go_q rfl rfl (qt_call rfl Try.func109 rfl (by decide) rfl (fun w M => placeIn_any w _ _ _ ((mem_own1 (n := 2) M rfl).rd))) ?_
     refine hK62 _ _ (fun w M => (mem_erase 3 (mem_erase 6 (mem_take 9 M)) :)) ?_
     refine ga_two 1 9 (by kernel_rfl) rfl rfl (.free rfl) (.free rfl) (fun K89 hK89 => ?_) (fun K89 hK89 => ?_)
     ·refine gov (qtl Try.underlying22 (n := 3)) ?_
      refine hK89 _ _ (fun w M => (mem_erase 3 (mem_erase 6 (mem_take 9 M)) :)) ?_
      refine gao 9 fun K92 hK92 => ?_
      refine go_slice1 rfl rfl rfl rfl Try.underlying22 ?_
      intro B91
      refine hK92 _ _ (fun w M => (mem_erase 3 (mem_erase 6 (mem_take 9 M)) :)) ?_
      refine gao 10 fun K94 hK94 => ?_
      refine go_append (n := 6) (m := 9) rfl rfl rfl Try.underlying22 rfl rfl rfl rfl (by omega) ?_
      intro va93 vc93
      refine hK94 _ _ (fun w M => (mem_erase 3 (mem_erase 6 (mem_take 9 M)) :)) ?_
      refine gav 11 rfl (qtf Try.underlying44 (z := 0) (off := 2)) ?_
      refine gao 12 fun K95 hK95 => ?_
      refine go_storeB (n := 3) rfl rfl rfl rfl (by kernel_rfl) rfl rfl rfl (by first | decide | simp) ?_
      refine hK95 _ _ (fun w M => (mem_erase 3 (mem_erase 6 (mem_take 9 M)) :)) ?_
      refine ga_done (by kernel_rfl) ?_
      refine gk_then (hK61 _ _ ?_)
      refine gc_sr fun K96 hK96 => ?_
      refine gm ?_
      refine gv (qln (fun w M => lenV_rd hu)) ?_
      refine gop fun K98 hK98 => ?_
      refine go_make1 rfl rfl rfl Try.underlying22 rfl rfl (by omega) ?_
      intro B97
      refine hK98 _ _ ?_
      refine gas ?_
      refine gnt (hK96 _ _ ?_)
      refine gc_seq fun K99 hK99 => ?_
      refine gc_sr fun K100 hK100 => ?_
      refine gm ?_
      refine gv (qln (fun w M => lenV_rd hu)) ?_
      refine gm ?_
      refine gnt (hK100 _ _ ?_)
      refine gc_block ?_
      simp only [tabTo_succ]
      rw [fillTo_zero (fun j => idxI xs (c.th (at0 xs (k : Int)) (at0 xs (j : Int)))) xs.length]
      try simp only [sL]
      refine gc_loopT ([(0, _), (1, _), (2, _), (4, _), (5, _), (6, _), (10, _), (11, _), (20, _), (21, _), (22, _), (23, _), (39, _), (40, _), (41, _), (42, _), (72, _), (73, _)] : Env) (fun s : Nat => (fun (l : Nat) => (([(74, .int .i64 (l : Int))] : Env), ([(10, own1I (.slice (some ⟨B97, 0, none⟩) xs.length xs.length) (fillTo (fun j => idxI xs (c.th (at0 xs (k : Int)) (at0 xs (j : Int)))) xs.length l))] : List (Nat × Itm)), l ≤ xs.length, xs.length - l)) s) (0) (by repeat first | exact sub_nil | refine sub_cons rfl ?_) rfl (Nat.zero_le _) ?_
      rintro l hinv KL101 hKL101
      simp only [sU, sL] at hinv hKL101 ⊢
      have hl3 := hinv
      have hl4 := fillTo_len (fun j => idxI xs (c.th (at0 xs (k : Int)) (at0 xs (j : Int)))) xs.length l
      refine gc_sr fun K102 hK102 => ?_
      refine gv (qt_lss rfl rfl rfl) ?_
      refine gnt (hK102 _ _ ?_)
      refine gc_seq fun K103 hK103 => ?_
      refine gc_cond rfl (fun hc3 => ?_) (fun hc3 => ?_)
      ·try simp only [sA] at hc3
       refine gc_skip ?_
       refine gk_then (hK103 _ _ ?_)
       refine gc_seq fun K104 hK104 => ?_
       refine gc_block ?_
       refine gc_sr fun K105 hK105 => ?_
       refine gm ?_
       refine gv (qti (fun w M => lenA_rd hu)) ?_
       refine gv (qtd (fun w M => mem_rd M hu)) ?_
       refine gas ?_
       refine gas ?_
       refine gnt (hK105 _ _ ?_)
       have hk1 := allP_k hx (k := k) (by omega)
       have hA := arrP hS hk1.1 hk1.2
       have a0 := hk1.1; have a1 := hk1.2; have a2 := hA.fs; have a3 := hA.fm; have a4 := hA.row; have a5 := hA.ft
       have hl1 := allP_k hx (k := l) (by omega)
       have b0 := hl1.1; have b1 := hl1.2
       refine gc_region ?_
       refine gm ?_
       refine gm ?_
       refine gm ?_
       refine gv (qts Try.underlying44 (n := 0)) ?_
       refine gm ?_
       refine gm ?_
       refine g_q (.free rfl) rfl rfl (qt_call rfl Try.func110 rfl (by decide) rfl (fun w M => then_any w _ _ _ _ (mem_rdC M h0) (by first | assumption | omega) (by first | assumption | omega) (by first | assumption | omega) (by first | assumption | omega))) ?_
       refine g_q (.free rfl) rfl rfl (qt_call rfl Try.func109 rfl (by decide) rfl (fun w M => placeIn_any w _ _ _ (mem_rd M hu))) ?_
       refine gv (qti (fun w M => lenA_own1 (n := 10) rfl M)) ?_
       refine gop fun K106 hK106 => ?_
       refine go_store1 (n := 10) rfl rfl rfl rfl (by kernel_rfl) rfl (by omega) (by omega) ?_
       refine hK106 _ _ ?_
       refine g_nil ?_
       refine gk_block ?_
       refine gk_then (hK104 _ _ ?_)
       refine gc_region ?_
       refine gv (qt_add rfl rfl rfl (by omega)) ?_
       refine gm ?_
       refine g_nil ?_
       rw [fillTo_set (fun j => idxI xs (c.th (at0 xs (k : Int)) (at0 xs (j : Int)))) (by omega)]
       refine gk_then (gk_take 11 ?_)
       refine gk_sub ?hs_107 (hKL101 (l + 1) ?hi_107 ?hm_107)
       case hs_107 => repeat first | exact sub_nil | refine sub_cons rfl ?_
       case hi_107 => omega
       case hm_107 => omega
      ·try simp only [sA] at hc3
       refine gc_exit ?_
       refine gk_then_exit ?_
       refine gk_then_exit ?_
       refine gk_block_hit ?_
       refine gk_then (hK99 _ _ ?_)
       refine gc_region ?_
       refine gv (qtf Try.underlying44 (z := 0) (off := 4)) ?_
       refine gv (qtl Try.underlying32 (n := 3)) ?_
       refine gm ?_
       refine gop fun K109 hK109 => ?_
       refine go_sliceR1 (m := 10) rfl rfl rfl rfl Try.underlying32 rfl ?_
       intro B108
       refine hK109 _ _ ?_
       refine gop fun K111 hK111 => ?_
       refine go_appendRow (n := 7) (m := 10) (m' := 9) rfl rfl rfl Try.underlying32 rfl rfl rfl rfl rfl (by omega) ?_
       intro va110 vc110
       refine hK111 _ _ ?_
       refine gv (qtf Try.underlying44 (z := 0) (off := 4)) ?_
       refine gop fun K112 hK112 => ?_
       refine go_storeB (n := 3) rfl rfl rfl rfl (by kernel_rfl) rfl rfl rfl (by first | decide | simp) ?_
       refine hK112 _ _ ?_
       refine g_nil ?_
       refine gk_block ?_
       refine gk_then (hK50 _ _ ?_)
       refine gc_region ?_
       refine gv (qt_add rfl rfl rfl (by omega)) ?_
       refine gm ?_
       refine g_nil ?_
       obtain rfl : l = xs.length := by omega
       simp only [fillTo_end, rowsTo_succ]
       refine gk_then (gk_take 8 ?_)
       refine gk_sub ?hs_113 (hKL47 (k + 1, _, _, _, _, _, _, _) ?hi_113 ?hm_113)
       case hs_113 => repeat first | exact sub_nil | refine sub_cons rfl ?_
       case hi_113 => omega
       case hm_113 => omega
     ·refine go_slice1 rfl rfl rfl rfl Try.underlying22 ?_
      intro B114
      refine hK89 _ _ (fun w M => (mem_erase 3 (mem_erase 6 (mem_take 9 M)) :)) ?_
      refine gao 1 fun K116 hK116 => ?_
      refine gov (qtl Try.underlying22 (n := 3)) ?_
      refine hK116 _ _ (fun w M => (mem_erase 3 (mem_erase 6 (mem_take 9 M)) :)) ?_
      refine gao 10 fun K118 hK118 => ?_
      refine go_append (n := 6) (m := 9) rfl rfl rfl Try.underlying22 rfl rfl rfl rfl (by omega) ?_
      intro va117 vc117
      refine hK118 _ _ (fun w M => (mem_erase 3 (mem_erase 6 (mem_take 9 M)) :)) ?_
      refine gav 11 rfl (qtf Try.underlying44 (z := 0) (off := 2)) ?_
      refine gao 12 fun K119 hK119 => ?_
      refine go_storeB (n := 3) rfl rfl rfl rfl (by kernel_rfl) rfl rfl rfl (by first | decide | simp) ?_
      refine hK119 _ _ (fun w M => (mem_erase 3 (mem_erase 6 (mem_take 9 M)) :)) ?_
      refine ga_done (by kernel_rfl) ?_
      refine gk_then (hK61 _ _ ?_)
      refine gc_sr fun K120 hK120 => ?_
      refine gm ?_
      refine gv (qln (fun w M => lenV_rd hu)) ?_
      refine gop fun K122 hK122 => ?_
      refine go_make1 rfl rfl rfl Try.underlying22 rfl rfl (by omega) ?_
      intro B121
      refine hK122 _ _ ?_
      refine gas ?_
      refine gnt (hK120 _ _ ?_)
      refine gc_seq fun K123 hK123 => ?_
      refine gc_sr fun K124 hK124 => ?_
      refine gm ?_
      refine gv (qln (fun w M => lenV_rd hu)) ?_
      refine gm ?_
      refine gnt (hK124 _ _ ?_)
      refine gc_block ?_
      simp only [tabTo_succ]
      rw [fillTo_zero (fun j => idxI xs (c.th (at0 xs (k : Int)) (at0 xs (j : Int)))) xs.length]
      try simp only [sL]
      refine gc_loopT ([(0, _), (1, _), (2, _), (4, _), (5, _), (6, _), (10, _), (11, _), (20, _), (21, _), (22, _), (23, _), (39, _), (40, _), (41, _), (42, _), (72, _), (73, _)] : Env) (fun s : Nat => (fun (l : Nat) => (([(74, .int .i64 (l : Int))] : Env), ([(10, own1I (.slice (some ⟨B121, 0, none⟩) xs.length xs.length) (fillTo (fun j => idxI xs (c.th (at0 xs (k : Int)) (at0 xs (j : Int)))) xs.length l))] : List (Nat × Itm)), l ≤ xs.length, xs.length - l)) s) (0) (by repeat first | exact sub_nil | refine sub_cons rfl ?_) rfl (Nat.zero_le _) ?_
      rintro l hinv KL125 hKL125
      simp only [sU, sL] at hinv hKL125 ⊢
      have hl3 := hinv
      have hl4 := fillTo_len (fun j => idxI xs (c.th (at0 xs (k : Int)) (at0 xs (j : Int)))) xs.length l
      refine gc_sr fun K126 hK126 => ?_
      refine gv (qt_lss rfl rfl rfl) ?_
      refine gnt (hK126 _ _ ?_)
      refine gc_seq fun K127 hK127 => ?_
      refine gc_cond rfl (fun hc4 => ?_) (fun hc4 => ?_)
      ·try simp only [sA] at hc4
       refine gc_skip ?_
       refine gk_then (hK127 _ _ ?_)
       refine gc_seq fun K128 hK128 => ?_
       refine gc_block ?_
       refine gc_sr fun K129 hK129 => ?_
       refine gm ?_
       refine gv (qti (fun w M => lenA_rd hu)) ?_
       refine gv (qtd (fun w M => mem_rd M hu)) ?_
       refine gas ?_
       refine gas ?_
       refine gnt (hK129 _ _ ?_)
       have hk1 := allP_k hx (k := k) (by omega)
       have hA := arrP hS hk1.1 hk1.2
       have a0 := hk1.1; have a1 := hk1.2; have a2 := hA.fs; have a3 := hA.fm; have a4 := hA.row; have a5 := hA.ft
       have hl1 := allP_k hx (k := l) (by omega)
       have b0 := hl1.1; have b1 := hl1.2
       refine gc_region ?_
       refine gm ?_
       refine gm ?_
       refine gm ?_
       refine gv (qts Try.underlying44 (n := 0)) ?_
       refine gm ?_
       refine gm ?_
       refine g_q (.free rfl) rfl rfl (qt_call rfl Try.func110 rfl (by decide) rfl (fun w M => then_any w _ _ _ _ (mem_rdC M h0) (by first | assumption | omega) (by first | assumption | omega) (by first | assumption | omega) (by first | assumption | omega))) ?_
       refine g_q (.free rfl) rfl rfl (qt_call rfl Try.func109 rfl (by decide) rfl (fun w M => placeIn_any w _ _ _ (mem_rd M hu))) ?_
       refine gv (qti (fun w M => lenA_own1 (n := 10) rfl M)) ?_
       refine gop fun K130 hK130 => ?_
       refine go_store1 (n := 10) rfl rfl rfl rfl (by kernel_rfl) rfl (by omega) (by omega) ?_
       refine hK130 _ _ ?_
       refine g_nil ?_
       refine gk_block ?_
       refine gk_then (hK128 _ _ ?_)
       refine gc_region ?_
       refine gv (qt_add rfl rfl rfl (by omega)) ?_
       refine gm ?_
       refine g_nil ?_
       rw [fillTo_set (fun j => idxI xs (c.th (at0 xs (k : Int)) (at0 xs (j : Int)))) (by omega)]
       refine gk_then (gk_take 11 ?_)
       refine gk_sub ?hs_131 (hKL125 (l + 1) ?hi_131 ?hm_131)
       case hs_131 => repeat first | exact sub_nil | refine sub_cons rfl ?_
       case hi_131 => omega
       case hm_131 => omega
      ·try simp only [sA] at hc4
       refine gc_exit ?_
       refine gk_then_exit ?_
       refine gk_then_exit ?_
       refine gk_block_hit ?_
       refine gk_then (hK123 _ _ ?_)
       refine gc_region ?_
       refine gv (qtf Try.underlying44 (z := 0) (off := 4)) ?_
       refine gv (qtl Try.underlying32 (n := 3)) ?_
       refine gm ?_
       refine gop fun K133 hK133 => ?_
       refine go_sliceR1 (m := 10) rfl rfl rfl rfl Try.underlying32 rfl ?_
       intro B132
       refine hK133 _ _ ?_
       refine gop fun K135 hK135 => ?_
       refine go_appendRow (n := 7) (m := 10) (m' := 9) rfl rfl rfl Try.underlying32 rfl rfl rfl rfl rfl (by omega) ?_
       intro va134 vc134
       refine hK135 _ _ ?_
       refine gv (qtf Try.underlying44 (z := 0) (off := 4)) ?_
       refine gop fun K136 hK136 => ?_
       refine go_storeB (n := 3) rfl rfl rfl rfl (by kernel_rfl) rfl rfl rfl (by first | decide | simp) ?_
       refine hK136 _ _ ?_
       refine g_nil ?_
       refine gk_block ?_
       refine gk_then (hK50 _ _ ?_)
       refine gc_region ?_
       refine gv (qt_add rfl rfl rfl (by omega)) ?_
       refine gm ?_
       refine g_nil ?_
       obtain rfl : l = xs.length := by omega
       simp only [fillTo_end, rowsTo_succ]
       refine gk_then (gk_take 8 ?_)
       refine gk_sub ?hs_137 (hKL47 (k + 1, _, _, _, _, _, _, _) ?hi_137 ?hm_137)
       case hs_137 => repeat first | exact sub_nil | refine sub_cons rfl ?_
       case hi_137 => omega
       case hm_137 => omega
   ·refine go_q rfl rfl (qt_call rfl Try.func109 rfl (by decide) rfl (fun w M => placeIn_any w _ _ _ ((mem_own1 (n := 2) M rfl).rd))) ?_
    refine hK53 _ _ (fun w M => (mem_erase 3 (mem_erase 5 (mem_take 8 M)) :)) ?_
    refine ga_two 1 9 (by kernel_rfl) rfl rfl (.free rfl) (.free rfl) (fun K139 hK139 => ?_) (fun K139 hK139 => ?_)
    ·refine gov (qtl Try.underlying22 (n := 3)) ?_
     refine hK139 _ _ (fun w M => (mem_erase 3 (mem_erase 5 (mem_take 8 M)) :)) ?_
     refine gao 9 fun K142 hK142 => ?_
     refine go_slice1 rfl rfl rfl rfl Try.underlying22 ?_
     intro B141
     refine hK142 _ _ (fun w M => (mem_erase 3 (mem_erase 5 (mem_take 8 M)) :)) ?_
     refine gao 10 fun K144 hK144 => ?_
     refine go_append (n := 5) (m := 8) rfl rfl rfl Try.underlying22 rfl rfl rfl rfl (by omega) ?_
     intro va143 vc143
     refine hK144 _ _ (fun w M => (mem_erase 3 (mem_erase 5 (mem_take 8 M)) :)) ?_
     refine gav 11 rfl (qtf Try.underlying44 (z := 0) (off := 1)) ?_
     refine gao 12 fun K145 hK145 => ?_
     refine go_storeB (n := 3) rfl rfl rfl rfl (by kernel_rfl) rfl rfl rfl (by first | decide | simp) ?_
     refine hK145 _ _ (fun w M => (mem_erase 3 (mem_erase 5 (mem_take 8 M)) :)) ?_
     refine ga_done (by kernel_rfl) ?_
     refine gk_then (hK52 _ _ ?_)
     refine gc_seq fun K146 hK146 => ?_
     try simp only [sL]
     refine ga_start _ (fun w M => mem_erase 3 (mem_erase 6 (M))) ?_
     refine gav 0 rfl (qtf Try.underlying44 (z := 0) (off := 2)) ?_
     refine gav 2 rfl (qt_move rfl rfl) ?_
     refine gav 3 rfl (qtf Try.underlying44 (z := 0) (off := 2)) ?_
     refine gav 4 rfl (qtl Try.underlying22 (n := 0)) ?_
     refine gav 5 rfl (qt_move rfl rfl) ?_
     refine gav 6 rfl (qti (fun w M => lenA_rd h2)) ?_
     refine gav 7 rfl (qtd (fun w M => mem_rd M h2)) ?_
     refine ga_two 1 8 (by kernel_rfl) rfl rfl (.free rfl) (.free rfl) (fun K147 hK147 => ?_) (fun K147 hK147 => ?_)
     ·refine gov (qtl Try.underlying22 (n := 3)) ?_
      refine hK147 _ _ (fun w M => (mem_erase 3 (mem_erase 6 (mem_take 9 M)) :)) ?_
      refine gao 8 fun K149 hK149 => ?_
      refine go_q rfl rfl (qt_call rfl Try.func109 rfl (by decide) rfl (fun w M => placeIn_any w _ _ _ ((mem_own1 (n := 2) M rfl).rd))) ?_
      refine hK149 _ _ (fun w M => (mem_erase 3 (mem_erase 6 (mem_take 9 M)) :)) ?_
      refine gao 9 fun K151 hK151 => ?_
      refine go_slice1 rfl rfl rfl rfl Try.underlying22 ?_
      intro B150
      refine hK151 _ _ (fun w M => (mem_erase 3 (mem_erase 6 (mem_take 9 M)) :)) ?_
      refine gao 10 fun K153 hK153 => ?_
      refine go_append (n := 6) (m := 9) rfl rfl rfl Try.underlying22 rfl rfl rfl rfl (by omega) ?_
      intro va152 vc152
      refine hK153 _ _ (fun w M => (mem_erase 3 (mem_erase 6 (mem_take 9 M)) :)) ?_
      refine gav 11 rfl (qtf Try.underlying44 (z := 0) (off := 2)) ?_
      refine gao 12 fun K154 hK154 => ?_
      refine go_storeB (n := 3) rfl rfl rfl rfl (by kernel_rfl) rfl rfl rfl (by first | decide | simp) ?_
      refine hK154 _ _ (fun w M => (mem_erase 3 (mem_erase 6 (mem_take 9 M)) :)) ?_
      refine ga_done (by kernel_rfl) ?_
      refine gk_then (hK146 _ _ ?_)
      refine gc_sr fun K155 hK155 => ?_
      refine gm ?_
      refine gv (qln (fun w M => lenV_rd hu)) ?_
      refine gop fun K157 hK157 => ?_
      refine go_make1 rfl rfl rfl Try.underlying22 rfl rfl (by omega) ?_
      intro B156
      refine hK157 _ _ ?_
      refine gas ?_
      refine gnt (hK155 _ _ ?_)
      refine gc_seq fun K158 hK158 => ?_
      refine gc_sr fun K159 hK159 => ?_
      refine gm ?_
      refine gv (qln (fun w M => lenV_rd hu)) ?_
      refine gm ?_
      refine gnt (hK159 _ _ ?_)
      refine gc_block ?_
      simp only [tabTo_succ]
      rw [fillTo_zero (fun j => idxI xs (c.th (at0 xs (k : Int)) (at0 xs (j : Int)))) xs.length]
      try simp only [sL]
      refine gc_loopT ([(0, _), (1, _), (2, _), (4, _), (5, _), (6, _), (10, _), (11, _), (20, _), (21, _), (22, _), (23, _), (39, _), (40, _), (41, _), (42, _), (72, _), (73, _)] : Env) (fun s : Nat => (fun (l : Nat) => (([(74, .int .i64 (l : Int))] : Env), ([(10, own1I (.slice (some ⟨B156, 0, none⟩) xs.length xs.length) (fillTo (fun j => idxI xs (c.th (at0 xs (k : Int)) (at0 xs (j : Int)))) xs.length l))] : List (Nat × Itm)), l ≤ xs.length, xs.length - l)) s) (0) (by repeat first | exact sub_nil | refine sub_cons rfl ?_) rfl (Nat.zero_le _) ?_
      rintro l hinv KL160 hKL160
      simp only [sU, sL] at hinv hKL160 ⊢
      have hl3 := hinv
      have hl4 := fillTo_len (fun j => idxI xs (c.th (at0 xs (k : Int)) (at0 xs (j : Int)))) xs.length l
      refine gc_sr fun K161 hK161 => ?_
      refine gv (qt_lss rfl rfl rfl) ?_
      refine gnt (hK161 _ _ ?_)
      refine gc_seq fun K162 hK162 => ?_
      refine gc_cond rfl (fun hc5 => ?_) (fun hc5 => ?_)
      ·try simp only [sA] at hc5
       refine gc_skip ?_
       refine gk_then (hK162 _ _ ?_)
       refine gc_seq fun K163 hK163 => ?_
       refine gc_block ?_
       refine gc_sr fun K164 hK164 => ?_
       refine gm ?_
       refine gv (qti (fun w M => lenA_rd hu)) ?_
       refine gv (qtd (fun w M => mem_rd M hu)) ?_
       refine gas ?_
       refine gas ?_
       refine gnt (hK164 _ _ ?_)
       have hk1 := allP_k hx (k := k) (by omega)
       have hA := arrP hS hk1.1 hk1.2
       have a0 := hk1.1; have a1 := hk1.2; have a2 := hA.fs; have a3 := hA.fm; have a4 := hA.row; have a5 := hA.ft
       have hl1 := allP_k hx (k := l) (by omega)
       have b0 := hl1.1; have b1 := hl1.2
       refine gc_region ?_
       refine gm ?_
       refine gm ?_
       refine gm ?_
       refine gv (qts Try.underlying44 (n := 0)) ?_
       refine gm ?_
       refine gm ?_
       refine g_q (.free rfl) rfl rfl (qt_call rfl Try.func110 rfl (by decide) rfl (fun w M => then_any w _ _ _ _ (mem_rdC M h0) (by first | assumption | omega) (by first | assumption | omega) (by first | assumption | omega) (by first | assumption | omega))) ?_
       refine g_q (.free rfl) rfl rfl (qt_call rfl Try.func109 rfl (by decide) rfl (fun w M => placeIn_any w _ _ _ (mem_rd M hu))) ?_
       refine gv (qti (fun w M => lenA_own1 (n := 10) rfl M)) ?_
       refine gop fun K165 hK165 => ?_
       refine go_store1 (n := 10) rfl rfl rfl rfl (by kernel_rfl) rfl (by omega) (by omega) ?_
       refine hK165 _ _ ?_
       refine g_nil ?_
       refine gk_block ?_
       refine gk_then (hK163 _ _ ?_)
       refine gc_region ?_
       refine gv (qt_add rfl rfl rfl (by omega)) ?_
       refine gm ?_
       refine g_nil ?_
       rw [fillTo_set (fun j => idxI xs (c.th (at0 xs (k : Int)) (at0 xs (j : Int)))) (by omega)]
       refine gk_then (gk_take 11 ?_)
       refine gk_sub ?hs_166 (hKL160 (l + 1) ?hi_166 ?hm_166)
       case hs_166 => repeat first | exact sub_nil | refine sub_cons rfl ?_
       case hi_166 => omega
       case hm_166 => omega
      ·try simp only [sA] at hc5
       refine gc_exit ?_
       refine gk_then_exit ?_
       refine gk_then_exit ?_
       refine gk_block_hit ?_
       refine gk_then (hK158 _ _ ?_)
       refine gc_region ?_
       refine gv (qtf Try.underlying44 (z := 0) (off := 4)) ?_
       refine gv (qtl Try.underlying32 (n := 3)) ?_
       refine gm ?_
       refine gop fun K168 hK168 => ?_
       refine go_sliceR1 (m := 10) rfl rfl rfl rfl Try.underlying32 rfl ?_
       intro B167
       refine hK168 _ _ ?_
       refine gop fun K170 hK170 => ?_
       refine go_appendRow (n := 7) (m := 10) (m' := 9) rfl rfl rfl Try.underlying32 rfl rfl rfl rfl rfl (by omega) ?_
       intro va169 vc169
       refine hK170 _ _ ?_
       refine gv (qtf Try.underlying44 (z := 0) (off := 4)) ?_
       refine gop fun K171 hK171 => ?_
       refine go_storeB (n := 3) rfl rfl rfl rfl (by kernel_rfl) rfl rfl rfl (by first | decide | simp) ?_
       refine hK171 _ _ ?_
       refine g_nil ?_
       refine gk_block ?_
       refine gk_then (hK50 _ _ ?_)
       refine gc_region ?_
       refine gv (qt_add rfl rfl rfl (by omega)) ?_
       refine gm ?_
       refine g_nil ?_
       obtain rfl : l = xs.length := by omega
       simp only [fillTo_end, rowsTo_succ]
       refine gk_then (gk_take 8 ?_)
       refine gk_sub ?hs_172 (hKL47 (k + 1, _, _, _, _, _, _, _) ?hi_172 ?hm_172)
       case hs_172 => repeat first | exact sub_nil | refine sub_cons rfl ?_
       case hi_172 => omega
       case hm_172 => omega
     ·refine go_q rfl rfl (qt_call rfl Try.func109 rfl (by decide) rfl (fun w M => placeIn_any w _ _ _ ((mem_own1 (n := 2) M rfl).rd))) ?_
      refine hK147 _ _ (fun w M => (mem_erase 3 (mem_erase 6 (mem_take 9 M)) :)) ?_
      refine ga_two 1 9 (by kernel_rfl) rfl rfl (.free rfl) (.free rfl) (fun K174 hK174 => ?_) (fun K174 hK174 => ?_)
      ·refine gov (qtl Try.underlying22 (n := 3)) ?_
       refine hK174 _ _ (fun w M => (mem_erase 3 (mem_erase 6 (mem_take 9 M)) :)) ?_
       refine gao 9 fun K177 hK177 => ?_
       refine go_slice1 rfl rfl rfl rfl Try.underlying22 ?_
       intro B176
       refine hK177 _ _ (fun w M => (mem_erase 3 (mem_erase 6 (mem_take 9 M)) :)) ?_
       refine gao 10 fun K179 hK179 => ?_
       refine go_append (n := 6) (m := 9) rfl rfl rfl Try.underlying22 rfl rfl rfl rfl (by omega) ?_
       intro va178 vc178
       refine hK179 _ _ (fun w M => (mem_erase 3 (mem_erase 6 (mem_take 9 M)) :)) ?_
       refine gav 11 rfl (qtf Try.underlying44 (z := 0) (off := 2)) ?_
       refine gao 12 fun K180 hK180 => ?_
       refine go_storeB (n := 3) rfl rfl rfl rfl (by kernel_rfl) rfl rfl rfl (by first | decide | simp) ?_
       refine hK180 _ _ (fun w M => (mem_erase 3 (mem_erase 6 (mem_take 9 M)) :)) ?_
       refine ga_done (by kernel_rfl) ?_
       refine gk_then (hK146 _ _ ?_)
       refine gc_sr fun K181 hK181 => ?_
       refine gm ?_
       refine gv (qln (fun w M => lenV_rd hu)) ?_
       refine gop fun K183 hK183 => ?_
       refine go_make1 rfl rfl rfl Try.underlying22 rfl rfl (by omega) ?_
       intro B182
       refine hK183 _ _ ?_
       refine gas ?_
       refine gnt (hK181 _ _ ?_)
       refine gc_seq fun K184 hK184 => ?_
       refine gc_sr fun K185 hK185 => ?_
       refine gm ?_
       refine gv (qln (fun w M => lenV_rd hu)) ?_
       refine gm ?_
       refine gnt (hK185 _ _ ?_)
       refine gc_block ?_
       simp only [tabTo_succ]
       rw [fillTo_zero (fun j => idxI xs (c.th (at0 xs (k : Int)) (at0 xs (j : Int)))) xs.length]
       try simp only [sL]
       refine gc_loopT ([(0, _), (1, _), (2, _), (4, _), (5, _), (6, _), (10, _), (11, _), (20, _), (21, _), (22, _), (23, _), (39, _), (40, _), (41, _), (42, _), (72, _), (73, _)] : Env) (fun s : Nat => (fun (l : Nat) => (([(74, .int .i64 (l : Int))] : Env), ([(10, own1I (.slice (some ⟨B182, 0, none⟩) xs.length xs.length) (fillTo (fun j => idxI xs (c.th (at0 xs (k : Int)) (at0 xs (j : Int)))) xs.length l))] : List (Nat × Itm)), l ≤ xs.length, xs.length - l)) s) (0) (by repeat first | exact sub_nil | refine sub_cons rfl ?_) rfl (Nat.zero_le _) ?_
       rintro l hinv KL186 hKL186
       simp only [sU, sL] at hinv hKL186 ⊢
       have hl3 := hinv
       have hl4 := fillTo_len (fun j => idxI xs (c.th (at0 xs (k : Int)) (at0 xs (j : Int)))) xs.length l
       refine gc_sr fun K187 hK187 => ?_
       refine gv (qt_lss rfl rfl rfl) ?_
       refine gnt (hK187 _ _ ?_)
       refine gc_seq fun K188 hK188 => ?_
       refine gc_cond rfl (fun hc6 => ?_) (fun hc6 => ?_)
       ·try simp only [sA] at hc6
        refine gc_skip ?_
        refine gk_then (hK188 _ _ ?_)
        refine gc_seq fun K189 hK189 => ?_
        refine gc_block ?_
        refine gc_sr fun K190 hK190 => ?_
        refine gm ?_
        refine gv (qti (fun w M => lenA_rd hu)) ?_
        refine gv (qtd (fun w M => mem_rd M hu)) ?_
        refine gas ?_
        refine gas ?_
        refine gnt (hK190 _ _ ?_)
        have hk1 := allP_k hx (k := k) (by omega)
        have hA := arrP hS hk1.1 hk1.2
        have a0 := hk1.1; have a1 := hk1.2; have a2 := hA.fs; have a3 := hA.fm; have a4 := hA.row; have a5 := hA.ft
        have hl1 := allP_k hx (k := l) (by omega)
        have b0 := hl1.1; have b1 := hl1.2
        refine gc_region ?_
        refine gm ?_
        refine gm ?_
        refine gm ?_
        refine gv (qts Try.underlying44 (n := 0)) ?_
        refine gm ?_
        refine gm ?_
        refine g_q (.free rfl) rfl rfl (qt_call rfl Try.func110 rfl (by decide) rfl (fun w M => then_any w _ _ _ _ (mem_rdC M h0) (by first | assumption | omega) (by first | assumption | omega) (by first | assumption | omega) (by first | assumption | omega))) ?_
        refine g_q (.free rfl) rfl rfl (qt_call rfl Try.func109 rfl (by decide) rfl (fun w M => placeIn_any w _ _ _ (mem_rd M hu))) ?_
        refine gv (qti (fun w M => lenA_own1 (n := 10) rfl M)) ?_
        refine gop fun K191 hK191 => ?_
        refine go_store1 (n := 10) rfl rfl rfl rfl (by kernel_rfl) rfl (by omega) (by omega) ?_
        refine hK191 _ _ ?_
        refine g_nil ?_
        refine gk_block ?_
        refine gk_then (hK189 _ _ ?_)
        refine gc_region ?_
        refine gv (qt_add rfl rfl rfl (by omega)) ?_
        refine gm ?_
        refine g_nil ?_
        rw [fillTo_set (fun j => idxI xs (c.th (at0 xs (k : Int)) (at0 xs (j : Int)))) (by omega)]
        refine gk_then (gk_take 11 ?_)
        refine gk_sub ?hs_192 (hKL186 (l + 1) ?hi_192 ?hm_192)
        case hs_192 => repeat first | exact sub_nil | refine sub_cons rfl ?_
        case hi_192 => omega
        case hm_192 => omega
       ·try simp only [sA] at hc6
        refine gc_exit ?_
        refine gk_then_exit ?_
        refine gk_then_exit ?_
        refine gk_block_hit ?_
        refine gk_then (hK184 _ _ ?_)
        refine gc_region ?_
        refine gv (qtf Try.underlying44 (z := 0) (off := 4)) ?_
        refine gv (qtl Try.underlying32 (n := 3)) ?_
        refine gm ?_
        refine gop fun K194 hK194 => ?_
        refine go_sliceR1 (m := 10) rfl rfl rfl rfl Try.underlying32 rfl ?_
        intro B193
        refine hK194 _ _ ?_
        refine gop fun K196 hK196 => ?_
        refine go_appendRow (n := 7) (m := 10) (m' := 9) rfl rfl rfl Try.underlying32 rfl rfl rfl rfl rfl (by omega) ?_
        intro va195 vc195
        refine hK196 _ _ ?_
        refine gv (qtf Try.underlying44 (z := 0) (off := 4)) ?_
        refine gop fun K197 hK197 => ?_
        refine go_storeB (n := 3) rfl rfl rfl rfl (by kernel_rfl) rfl rfl rfl (by first | decide | simp) ?_
        refine hK197 _ _ ?_
        refine g_nil ?_
        refine gk_block ?_
        refine gk_then (hK50 _ _ ?_)
        refine gc_region ?_
        refine gv (qt_add rfl rfl rfl (by omega)) ?_
        refine gm ?_
        refine g_nil ?_
        obtain rfl : l = xs.length := by omega
        simp only [fillTo_end, rowsTo_succ]
        refine gk_then (gk_take 8 ?_)
        refine gk_sub ?hs_198 (hKL47 (k + 1, _, _, _, _, _, _, _) ?hi_198 ?hm_198)
        case hs_198 => repeat first | exact sub_nil | refine sub_cons rfl ?_
        case hi_198 => omega
        case hm_198 => omega
      ·refine go_slice1 rfl rfl rfl rfl Try.underlying22 ?_
       intro B199
       refine hK174 _ _ (fun w M => (mem_erase 3 (mem_erase 6 (mem_take 9 M)) :)) ?_
       refine gao 1 fun K201 hK201 => ?_
       refine gov (qtl Try.underlying22 (n := 3)) ?_
       refine hK201 _ _ (fun w M => (mem_erase 3 (mem_erase 6 (mem_take 9 M)) :)) ?_
       refine gao 10 fun K203 hK203 => ?_
       refine go_append (n := 6) (m := 9) rfl rfl rfl Try.underlying22 rfl rfl rfl rfl (by omega) ?_
       intro va202 vc202
       refine hK203 _ _ (fun w M => (mem_erase 3 (mem_erase 6 (mem_take 9 M)) :)) ?_
       refine gav 11 rfl (qtf Try.underlying44 (z := 0) (off := 2)) ?_
       refine gao 12 fun K204 hK204 => ?_
       refine go_storeB (n := 3) rfl rfl rfl rfl (by kernel_rfl) rfl rfl rfl (by first | decide | simp) ?_
       refine hK204 _ _ (fun w M => (mem_erase 3 (mem_erase 6 (mem_take 9 M)) :)) ?_
       refine ga_done (by kernel_rfl) ?_
       refine gk_then (hK146 _ _ ?_)
       refine gc_sr fun K205 hK205 => ?_
       refine gm ?_
       refine gv (qln (fun w M => lenV_rd hu)) ?_
       refine gop fun K207 hK207 => ?_
       refine go_make1 rfl rfl rfl Try.underlying22 rfl rfl (by omega) ?_
       intro B206
       refine hK207 _ _ ?_
       refine gas ?_
       refine gnt (hK205 _ _ ?_)
       refine gc_seq fun K208 hK208 => ?_
       refine gc_sr fun K209 hK209 => ?_
       refine gm ?_
       refine gv (qln (fun w M => lenV_rd hu)) ?_
       refine gm ?_
       refine gnt (hK209 _ _ ?_)
       refine gc_block ?_
       simp only [tabTo_succ]
       rw [fillTo_zero (fun j => idxI xs (c.th (at0 xs (k : Int)) (at0 xs (j : Int)))) xs.length]
       try simp only [sL]
       refine gc_loopT ([(0, _), (1, _), (2, _), (4, _), (5, _), (6, _), (10, _), (11, _), (20, _), (21, _), (22, _), (23, _), (39, _), (40, _), (41, _), (42, _), (72, _), (73, _)] : Env) (fun s : Nat => (fun (l : Nat) => (([(74, .int .i64 (l : Int))] : Env), ([(10, own1I (.slice (some ⟨B206, 0, none⟩) xs.length xs.length) (fillTo (fun j => idxI xs (c.th (at0 xs (k : Int)) (at0 xs (j : Int)))) xs.length l))] : List (Nat × Itm)), l ≤ xs.length, xs.length - l)) s) (0) (by repeat first | exact sub_nil | refine sub_cons rfl ?_) rfl (Nat.zero_le _) ?_
       rintro l hinv KL210 hKL210
       simp only [sU, sL] at hinv hKL210 ⊢
       have hl3 := hinv
       have hl4 := fillTo_len (fun j => idxI xs (c.th (at0 xs (k : Int)) (at0 xs (j : Int)))) xs.length l
       refine gc_sr fun K211 hK211 => ?_
       refine gv (qt_lss rfl rfl rfl) ?_
       refine gnt (hK211 _ _ ?_)
       refine gc_seq fun K212 hK212 => ?_
       refine gc_cond rfl (fun hc7 => ?_) (fun hc7 => ?_)
       ·try simp only [sA] at hc7
        refine gc_skip ?_
        refine gk_then (hK212 _ _ ?_)
        refine gc_seq fun K213 hK213 => ?_
        refine gc_block ?_
        refine gc_sr fun K214 hK214 => ?_
        refine gm ?_
        refine gv (qti (fun w M => lenA_rd hu)) ?_
        refine gv (qtd (fun w M => mem_rd M hu)) ?_
        refine gas ?_
        refine gas ?_
        refine gnt (hK214 _ _ ?_)
        have hk1 := allP_k hx (k := k) (by omega)
        have hA := arrP hS hk1.1 hk1.2
        have a0 := hk1.1; have a1 := hk1.2; have a2 := hA.fs; have a3 := hA.fm; have a4 := hA.row; have a5 := hA.ft
        have hl1 := allP_k hx (k := l) (by omega)
        have b0 := hl1.1; have b1 := hl1.2
        refine gc_region ?_
        refine gm ?_
        refine gm ?_
        refine gm ?_
        refine gv (qts Try.underlying44 (n := 0)) ?_
        refine gm ?_
        refine gm ?_
        refine g_q (.free rfl) rfl rfl (qt_call rfl Try.func110 rfl (by decide) rfl (fun w M => then_any w _ _ _ _ (mem_rdC M h0) (by first | assumption | omega) (by first | assumption | omega) (by first | assumption | omega) (by first | assumption | omega))) ?_
        refine g_q (.free rfl) rfl rfl (qt_call rfl Try.func109 rfl (by decide) rfl (fun w M => placeIn_any w _ _ _ (mem_rd M hu))) ?_
        refine gv (qti (fun w M => lenA_own1 (n := 10) rfl M)) ?_
        refine gop fun K215 hK215 => ?_
        refine go_store1 (n := 10) rfl rfl rfl rfl (by kernel_rfl) rfl (by omega) (by omega) ?_
        refine hK215 _ _ ?_
        refine g_nil ?_
        refine gk_block ?_
        refine gk_then (hK213 _ _ ?_)
        refine gc_region ?_
        refine gv (qt_add rfl rfl rfl (by omega)) ?_
        refine gm ?_
        refine g_nil ?_
        rw [fillTo_set (fun j => idxI xs (c.th (at0 xs (k : Int)) (at0 xs (j : Int)))) (by omega)]
        refine gk_then (gk_take 11 ?_)
        refine gk_sub ?hs_216 (hKL210 (l + 1) ?hi_216 ?hm_216)
        case hs_216 => repeat first | exact sub_nil | refine sub_cons rfl ?_
        case hi_216 => omega
        case hm_216 => omega
       ·try simp only [sA] at hc7
        refine gc_exit ?_
        refine gk_then_exit ?_
        refine gk_then_exit ?_
        refine gk_block_hit ?_
        refine gk_then (hK208 _ _ ?_)
        refine gc_region ?_
        refine gv (qtf Try.underlying44 (z := 0) (off := 4)) ?_
        refine gv (qtl Try.underlying32 (n := 3)) ?_
        refine gm ?_
        refine gop fun K218 hK218 => ?_
        refine go_sliceR1 (m := 10) rfl rfl rfl rfl Try.underlying32 rfl ?_
        intro B217
        refine hK218 _ _ ?_
        refine gop fun K220 hK220 => ?_
        refine go_appendRow (n := 7) (m := 10) (m' := 9) rfl rfl rfl Try.underlying32 rfl rfl rfl rfl rfl (by omega) ?_
        intro va219 vc219
        refine hK220 _ _ ?_
        refine gv (qtf Try.underlying44 (z := 0) (off := 4)) ?_
        refine gop fun K221 hK221 => ?_
        refine go_storeB (n := 3) rfl rfl rfl rfl (by kernel_rfl) rfl rfl rfl (by first | decide | simp) ?_
        refine hK221 _ _ ?_
        refine g_nil ?_
        refine gk_block ?_
        refine gk_then (hK50 _ _ ?_)
        refine gc_region ?_
        refine gv (qt_add rfl rfl rfl (by omega)) ?_
        refine gm ?_
        refine g_nil ?_
        obtain rfl : l = xs.length := by omega
        simp only [fillTo_end, rowsTo_succ]
        refine gk_then (gk_take 8 ?_)
        refine gk_sub ?hs_222 (hKL47 (k + 1, _, _, _, _, _, _, _) ?hi_222 ?hm_222)
        case hs_222 => repeat first | exact sub_nil | refine sub_cons rfl ?_
        case hi_222 => omega
        case hm_222 => omega
    ·refine go_slice1 rfl rfl rfl rfl Try.underlying22 ?_
     intro B223
     refine hK139 _ _ (fun w M => (mem_erase 3 (mem_erase 5 (mem_take 8 M)) :)) ?_
     refine gao 1 fun K225 hK225 => ?_
     refine gov (qtl Try.underlying22 (n := 3)) ?_
     refine hK225 _ _ (fun w M => (mem_erase 3 (mem_erase 5 (mem_take 8 M)) :)) ?_
     refine gao 10 fun K227 hK227 => ?_
     refine go_append (n := 5) (m := 8) rfl rfl rfl Try.underlying22 rfl rfl rfl rfl (by omega) ?_
     intro va226 vc226
     refine hK227 _ _ (fun w M => (mem_erase 3 (mem_erase 5 (mem_take 8 M)) :)) ?_
     refine gav 11 rfl (qtf Try.underlying44 (z := 0) (off := 1)) ?_
     refine gao 12 fun K228 hK228 => ?_
     refine go_storeB (n := 3) rfl rfl rfl rfl (by kernel_rfl) rfl rfl rfl (by first | decide | simp) ?_
     refine hK228 _ _ (fun w M => (mem_erase 3 (mem_erase 5 (mem_take 8 M)) :)) ?_
     refine ga_done (by kernel_rfl) ?_
     refine gk_then (hK52 _ _ ?_)
     refine gc_seq fun K229 hK229 => ?_
     try simp only [sL]
     refine ga_start _ (fun w M => mem_erase 3 (mem_erase 6 (M))) ?_
     refine gav 0 rfl (qtf Try.underlying44 (z := 0) (off := 2)) ?_
     refine gav 2 rfl (qt_move rfl rfl) ?_
     refine gav 3 rfl (qtf Try.underlying44 (z := 0) (off := 2)) ?_
     refine gav 4 rfl (qtl Try.underlying22 (n := 0)) ?_
     refine gav 5 rfl (qt_move rfl rfl) ?_
     refine gav 6 rfl (qti (fun w M => lenA_rd h2)) ?_
     refine gav 7 rfl (qtd (fun w M => mem_rd M h2)) ?_
     refine ga_two 1 8 (by kernel_rfl) rfl rfl (.free rfl) (.free rfl) (fun K230 hK230 => ?_) (fun K230 hK230 => ?_)
     ·refine gov (qtl Try.underlying22 (n := 3)) ?_
      refine hK230 _ _ (fun w M => (mem_erase 3 (mem_erase 6 (mem_take 9 M)) :)) ?_
      refine gao 8 fun K232 hK232 => ?_
      refine go_q rfl rfl (qt_call rfl Try.func109 rfl (by decide) rfl (fun w M => placeIn_any w _ _ _ ((mem_own1 (n := 2) M rfl).rd))) ?_
      refine hK232 _ _ (fun w M => (mem_erase 3 (mem_erase 6 (mem_take 9 M)) :)) ?_
      refine gao 9 fun K234 hK234 => ?_
      refine go_slice1 rfl rfl rfl rfl Try.underlying22 ?_
      intro B233
      refine hK234 _ _ (fun w M => (mem_erase 3 (mem_erase 6 (mem_take 9 M)) :)) ?_
      refine gao 10 fun K236 hK236 => ?_
      refine go_append (n := 6) (m := 9) rfl rfl rfl Try.underlying22 rfl rfl rfl rfl (by omega) ?_
      intro va235 vc235
      refine hK236 _ _ (fun w M => (mem_erase 3 (mem_erase 6 (mem_take 9 M)) :)) ?_
      refine gav 11 rfl (qtf Try.underlying44 (z := 0) (off := 2)) ?_
      refine gao 12 fun K237 hK237 => ?_
      refine go_storeB (n := 3) rfl rfl rfl rfl (by kernel_rfl) rfl rfl rfl (by first | decide | simp) ?_
      refine hK237 _ _ (fun w M => (mem_erase 3 (mem_erase 6 (mem_take 9 M)) :)) ?_
      refine ga_done (by kernel_rfl) ?_
      refine gk_then (hK229 _ _ ?_)
      refine gc_sr fun K238 hK238 => ?_
      refine gm ?_
      refine gv (qln (fun w M => lenV_rd hu)) ?_
      refine gop fun K240 hK240 => ?_
      refine go_make1 rfl rfl rfl Try.underlying22 rfl rfl (by omega) ?_
      intro B239
      refine hK240 _ _ ?_
      refine gas ?_
      refine gnt (hK238 _ _ ?_)
      refine gc_seq fun K241 hK241 => ?_
      refine gc_sr fun K242 hK242 => ?_
      refine gm ?_
      refine gv (qln (fun w M => lenV_rd hu)) ?_
      refine gm ?_
      refine gnt (hK242 _ _ ?_)
      refine gc_block ?_
      simp only [tabTo_succ]
      rw [fillTo_zero (fun j => idxI xs (c.th (at0 xs (k : Int)) (at0 xs (j : Int)))) xs.length]
      try simp only [sL]
      refine gc_loopT ([(0, _), (1, _), (2, _), (4, _), (5, _), (6, _), (10, _), (11, _), (20, _), (21, _), (22, _), (23, _), (39, _), (40, _), (41, _), (42, _), (72, _), (73, _)] : Env) (fun s : Nat => (fun (l : Nat) => (([(74, .int .i64 (l : Int))] : Env), ([(10, own1I (.slice (some ⟨B239, 0, none⟩) xs.length xs.length) (fillTo (fun j => idxI xs (c.th (at0 xs (k : Int)) (at0 xs (j : Int)))) xs.length l))] : List (Nat × Itm)), l ≤ xs.length, xs.length - l)) s) (0) (by repeat first | exact sub_nil | refine sub_cons rfl ?_) rfl (Nat.zero_le _) ?_
      rintro l hinv KL243 hKL243
      simp only [sU, sL] at hinv hKL243 ⊢
      have hl3 := hinv
      have hl4 := fillTo_len (fun j => idxI xs (c.th (at0 xs (k : Int)) (at0 xs (j : Int)))) xs.length l
      refine gc_sr fun K244 hK244 => ?_
      refine gv (qt_lss rfl rfl rfl) ?_
      refine gnt (hK244 _ _ ?_)
      refine gc_seq fun K245 hK245 => ?_
      refine gc_cond rfl (fun hc8 => ?_) (fun hc8 => ?_)
      ·try simp only [sA] at hc8
       refine gc_skip ?_
       refine gk_then (hK245 _ _ ?_)
       refine gc_seq fun K246 hK246 => ?_
       refine gc_block ?_
       refine gc_sr fun K247 hK247 => ?_
       refine gm ?_
       refine gv (qti (fun w M => lenA_rd hu)) ?_
       refine gv (qtd (fun w M => mem_rd M hu)) ?_
       refine gas ?_
       refine gas ?_
       refine gnt (hK247 _ _ ?_)
       have hk1 := allP_k hx (k := k) (by omega)
       have hA := arrP hS hk1.1 hk1.2
       have a0 := hk1.1; have a1 := hk1.2; have a2 := hA.fs; have a3 := hA.fm; have a4 := hA.row; have a5 := hA.ft
       have hl1 := allP_k hx (k := l) (by omega)
       have b0 := hl1.1; have b1 := hl1.2
       refine gc_region ?_
       refine gm ?_
       refine gm ?_
       refine gm ?_
       refine gv (qts Try.underlying44 (n := 0)) ?_
       refine gm ?_
       refine gm ?_
       refine g_q (.free rfl) rfl rfl (qt_call rfl Try.func110 rfl (by decide) rfl (fun w M => then_any w _ _ _ _ (mem_rdC M h0) (by first | assumption | omega) (by first | assumption | omega) (by first | assumption | omega) (by first | assumption | omega))) ?_
       refine g_q (.free rfl) rfl rfl (qt_call rfl Try.func109 rfl (by decide) rfl (fun w M => placeIn_any w _ _ _ (mem_rd M hu))) ?_
       refine gv (qti (fun w M => lenA_own1 (n := 10) rfl M)) ?_
       refine gop fun K248 hK248 => ?_
       refine go_store1 (n := 10) rfl rfl rfl rfl (by kernel_rfl) rfl (by omega) (by omega) ?_
       refine hK248 _ _ ?_
       refine g_nil ?_
       refine gk_block ?_
       refine gk_then (hK246 _ _ ?_)
       refine gc_region ?_
       refine gv (qt_add rfl rfl rfl (by omega)) ?_
       refine gm ?_
       refine g_nil ?_
       rw [fillTo_set (fun j => idxI xs (c.th (at0 xs (k : Int)) (at0 xs (j : Int)))) (by omega)]
       refine gk_then (gk_take 11 ?_)
       refine gk_sub ?hs_249 (hKL243 (l + 1) ?hi_249 ?hm_249)
       case hs_249 => repeat first | exact sub_nil | refine sub_cons rfl ?_
       case hi_249 => omega
       case hm_249 => omega
      ·try simp only [sA] at hc8
       refine gc_exit ?_
       refine gk_then_exit ?_
       refine gk_then_exit ?_
       refine gk_block_hit ?_
       refine gk_then (hK241 _ _ ?_)
       refine gc_region ?_
       refine gv (qtf Try.underlying44 (z := 0) (off := 4)) ?_
       refine gv (qtl Try.underlying32 (n := 3)) ?_
       refine gm ?_
       refine gop fun K251 hK251 => ?_
       refine go_sliceR1 (m := 10) rfl rfl rfl rfl Try.underlying32 rfl ?_
       intro B250
       refine hK251 _ _ ?_
       refine gop fun K253 hK253 => ?_
       refine go_appendRow (n := 7) (m := 10) (m' := 9) rfl rfl rfl Try.underlying32 rfl rfl rfl rfl rfl (by omega) ?_
       intro va252 vc252
       refine hK253 _ _ ?_
       refine gv (qtf Try.underlying44 (z := 0) (off := 4)) ?_
       refine gop fun K254 hK254 => ?_
       refine go_storeB (n := 3) rfl rfl rfl rfl (by kernel_rfl) rfl rfl rfl (by first | decide | simp) ?_
       refine hK254 _ _ ?_
       refine g_nil ?_
       refine gk_block ?_
       refine gk_then (hK50 _ _ ?_)
       refine gc_region ?_
       refine gv (qt_add rfl rfl rfl (by omega)) ?_
       refine gm ?_
       refine g_nil ?_
       obtain rfl : l = xs.length := by omega
       simp only [fillTo_end, rowsTo_succ]
       refine gk_then (gk_take 8 ?_)
       refine gk_sub ?hs_255 (hKL47 (k + 1, _, _, _, _, _, _, _) ?hi_255 ?hm_255)
       case hs_255 => repeat first | exact sub_nil | refine sub_cons rfl ?_
       case hi_255 => omega
       case hm_255 => omega
     ·refine go_q rfl rfl (qt_call rfl Try.func109 rfl (by decide) rfl (fun w M => placeIn_any w _ _ _ ((mem_own1 (n := 2) M rfl).rd))) ?_
      refine hK230 _ _ (fun w M => (mem_erase 3 (mem_erase 6 (mem_take 9 M)) :)) ?_
      refine ga_two 1 9 (by kernel_rfl) rfl rfl (.free rfl) (.free rfl) (fun K257 hK257 => ?_) (fun K257 hK257 => ?_)
      ·refine gov (qtl Try.underlying22 (n := 3)) ?_
       refine hK257 _ _ (fun w M => (mem_erase 3 (mem_erase 6 (mem_take 9 M)) :)) ?_
       refine gao 9 fun K260 hK260 => ?_
       refine go_slice1 rfl rfl rfl rfl Try.underlying22 ?_
       intro B259
       refine hK260 _ _ (fun w M => (mem_erase 3 (mem_erase 6 (mem_take 9 M)) :)) ?_
       refine gao 10 fun K262 hK262 => ?_
       refine go_append (n := 6) (m := 9) rfl rfl rfl Try.underlying22 rfl rfl rfl rfl (by omega) ?_
       intro va261 vc261
       refine hK262 _ _ (fun w M => (mem_erase 3 (mem_erase 6 (mem_take 9 M)) :)) ?_
       refine gav 11 rfl (qtf Try.underlying44 (z := 0) (off := 2)) ?_
       refine gao 12 fun K263 hK263 => ?_
       refine go_storeB (n := 3) rfl rfl rfl rfl (by kernel_rfl) rfl rfl rfl (by first | decide | simp) ?_
       refine hK263 _ _ (fun w M => (mem_erase 3 (mem_erase 6 (mem_take 9 M)) :)) ?_
       refine ga_done (by kernel_rfl) ?_
       refine gk_then (hK229 _ _ ?_)
       refine gc_sr fun K264 hK264 => ?_
       refine gm ?_
       refine gv (qln (fun w M => lenV_rd hu)) ?_
       refine gop fun K266 hK266 => ?_
       refine go_make1 rfl rfl rfl Try.underlying22 rfl rfl (by omega) ?_
       intro B265
       refine hK266 _ _ ?_
       refine gas ?_
       refine gnt (hK264 _ _ ?_)
       refine gc_seq fun K267 hK267 => ?_
       refine gc_sr fun K268 hK268 => ?_
       refine gm ?_
       refine gv (qln (fun w M => lenV_rd hu)) ?_
       refine gm ?_
       refine gnt (hK268 _ _ ?_)
       refine gc_block ?_
       simp only [tabTo_succ]
       rw [fillTo_zero (fun j => idxI xs (c.th (at0 xs (k : Int)) (at0 xs (j : Int)))) xs.length]
       try simp only [sL]
       refine gc_loopT ([(0, _), (1, _), (2, _), (4, _), (5, _), (6, _), (10, _), (11, _), (20, _), (21, _), (22, _), (23, _), (39, _), (40, _), (41, _), (42, _), (72, _), (73, _)] : Env) (fun s : Nat => (fun (l : Nat) => (([(74, .int .i64 (l : Int))] : Env), ([(10, own1I (.slice (some ⟨B265, 0, none⟩) xs.length xs.length) (fillTo (fun j => idxI xs (c.th (at0 xs (k : Int)) (at0 xs (j : Int)))) xs.length l))] : List (Nat × Itm)), l ≤ xs.length, xs.length - l)) s) (0) (by repeat first | exact sub_nil | refine sub_cons rfl ?_) rfl (Nat.zero_le _) ?_
       rintro l hinv KL269 hKL269
       simp only [sU, sL] at hinv hKL269 ⊢
       have hl3 := hinv
       have hl4 := fillTo_len (fun j => idxI xs (c.th (at0 xs (k : Int)) (at0 xs (j : Int)))) xs.length l
       refine gc_sr fun K270 hK270 => ?_
       refine gv (qt_lss rfl rfl rfl) ?_
       refine gnt (hK270 _ _ ?_)
       refine gc_seq fun K271 hK271 => ?_
       refine gc_cond rfl (fun hc9 => ?_) (fun hc9 => ?_)
       ·try simp only [sA] at hc9
        refine gc_skip ?_
        refine gk_then (hK271 _ _ ?_)
        refine gc_seq fun K272 hK272 => ?_
        refine gc_block ?_
        refine gc_sr fun K273 hK273 => ?_
        refine gm ?_
        refine gv (qti (fun w M => lenA_rd hu)) ?_
        refine gv (qtd (fun w M => mem_rd M hu)) ?_
        refine gas ?_
        refine gas ?_
        refine gnt (hK273 _ _ ?_)
        have hk1 := allP_k hx (k := k) (by omega)
        have hA := arrP hS hk1.1 hk1.2
        have a0 := hk1.1; have a1 := hk1.2; have a2 := hA.fs; have a3 := hA.fm; have a4 := hA.row; have a5 := hA.ft
        have hl1 := allP_k hx (k := l) (by omega)
        have b0 := hl1.1; have b1 := hl1.2
        refine gc_region ?_
        refine gm ?_
        refine gm ?_
        refine gm ?_
        refine gv (qts Try.underlying44 (n := 0)) ?_
        refine gm ?_
        refine gm ?_
        refine g_q (.free rfl) rfl rfl (qt_call rfl Try.func110 rfl (by decide) rfl (fun w M => then_any w _ _ _ _ (mem_rdC M h0) (by first | assumption | omega) (by first | assumption | omega) (by first | assumption | omega) (by first | assumption | omega))) ?_
        refine g_q (.free rfl) rfl rfl (qt_call rfl Try.func109 rfl (by decide) rfl (fun w M => placeIn_any w _ _ _ (mem_rd M hu))) ?_
        refine gv (qti (fun w M => lenA_own1 (n := 10) rfl M)) ?_
        refine gop fun K274 hK274 => ?_
        refine go_store1 (n := 10) rfl rfl rfl rfl (by kernel_rfl) rfl (by omega) (by omega) ?_
        refine hK274 _ _ ?_
        refine g_nil ?_
        refine gk_block ?_
        refine gk_then (hK272 _ _ ?_)
        refine gc_region ?_
        refine gv (qt_add rfl rfl rfl (by omega)) ?_
        refine gm ?_
        refine g_nil ?_
        rw [fillTo_set (fun j => idxI xs (c.th (at0 xs (k : Int)) (at0 xs (j : Int)))) (by omega)]
        refine gk_then (gk_take 11 ?_)
        refine gk_sub ?hs_275 (hKL269 (l + 1) ?hi_275 ?hm_275)
        case hs_275 => repeat first | exact sub_nil | refine sub_cons rfl ?_
        case hi_275 => omega
        case hm_275 => omega
       ·try simp only [sA] at hc9
        refine gc_exit ?_
        refine gk_then_exit ?_
        refine gk_then_exit ?_
        refine gk_block_hit ?_
        refine gk_then (hK267 _ _ ?_)
        refine gc_region ?_
        refine gv (qtf Try.underlying44 (z := 0) (off := 4)) ?_
        refine gv (qtl Try.underlying32 (n := 3)) ?_
        refine gm ?_
        refine gop fun K277 hK277 => ?_
        refine go_sliceR1 (m := 10) rfl rfl rfl rfl Try.underlying32 rfl ?_
        intro B276
        refine hK277 _ _ ?_
        refine gop fun K279 hK279 => ?_
        refine go_appendRow (n := 7) (m := 10) (m' := 9) rfl rfl rfl Try.underlying32 rfl rfl rfl rfl rfl (by omega) ?_
        intro va278 vc278
        refine hK279 _ _ ?_
        refine gv (qtf Try.underlying44 (z := 0) (off := 4)) ?_
        refine gop fun K280 hK280 => ?_
        refine go_storeB (n := 3) rfl rfl rfl rfl (by kernel_rfl) rfl rfl rfl (by first | decide | simp) ?_
        refine hK280 _ _ ?_
        refine g_nil ?_
        refine gk_block ?_
        refine gk_then (hK50 _ _ ?_)
        refine gc_region ?_
        refine gv (qt_add rfl rfl rfl (by omega)) ?_
        refine gm ?_
        refine g_nil ?_
        obtain rfl : l = xs.length := by omega
        simp only [fillTo_end, rowsTo_succ]
        refine gk_then (gk_take 8 ?_)
        refine gk_sub ?hs_281 (hKL47 (k + 1, _, _, _, _, _, _, _) ?hi_281 ?hm_281)
        case hs_281 => repeat first | exact sub_nil | refine sub_cons rfl ?_
        case hi_281 => omega
        case hm_281 => omega
      ·refine go_slice1 rfl rfl rfl rfl Try.underlying22 ?_
       intro B282
       refine hK257 _ _ (fun w M => (mem_erase 3 (mem_erase 6 (mem_take 9 M)) :)) ?_
       refine gao 1 fun K284 hK284 => ?_
       refine gov (qtl Try.underlying22 (n := 3)) ?_
       refine hK284 _ _ (fun w M => (mem_erase 3 (mem_erase 6 (mem_take 9 M)) :)) ?_
       refine gao 10 fun K286 hK286 => ?_
       refine go_append (n := 6) (m := 9) rfl rfl rfl Try.underlying22 rfl rfl rfl rfl (by omega) ?_
       intro va285 vc285
       refine hK286 _ _ (fun w M => (mem_erase 3 (mem_erase 6 (mem_take 9 M)) :)) ?_
       refine gav 11 rfl (qtf Try.underlying44 (z := 0) (off := 2)) ?_
       refine gao 12 fun K287 hK287 => ?_
       refine go_storeB (n := 3) rfl rfl rfl rfl (by kernel_rfl) rfl rfl rfl (by first | decide | simp) ?_
       refine hK287 _ _ (fun w M => (mem_erase 3 (mem_erase 6 (mem_take 9 M)) :)) ?_
       refine ga_done (by kernel_rfl) ?_
       refine gk_then (hK229 _ _ ?_)
       refine gc_sr fun K288 hK288 => ?_
       refine gm ?_
       refine gv (qln (fun w M => lenV_rd hu)) ?_
       refine gop fun K290 hK290 => ?_
       refine go_make1 rfl rfl rfl Try.underlying22 rfl rfl (by omega) ?_
       intro B289
       refine hK290 _ _ ?_
       refine gas ?_
       refine gnt (hK288 _ _ ?_)
       refine gc_seq fun K291 hK291 => ?_
       refine gc_sr fun K292 hK292 => ?_
       refine gm ?_
       refine gv (qln (fun w M => lenV_rd hu)) ?_
       refine gm ?_
       refine gnt (hK292 _ _ ?_)
       refine gc_block ?_
       simp only [tabTo_succ]
       rw [fillTo_zero (fun j => idxI xs (c.th (at0 xs (k : Int)) (at0 xs (j : Int)))) xs.length]
       try simp only [sL]
       refine gc_loopT ([(0, _), (1, _), (2, _), (4, _), (5, _), (6, _), (10, _), (11, _), (20, _), (21, _), (22, _), (23, _), (39, _), (40, _), (41, _), (42, _), (72, _), (73, _)] : Env) (fun s : Nat => (fun (l : Nat) => (([(74, .int .i64 (l : Int))] : Env), ([(10, own1I (.slice (some ⟨B289, 0, none⟩) xs.length xs.length) (fillTo (fun j => idxI xs (c.th (at0 xs (k : Int)) (at0 xs (j : Int)))) xs.length l))] : List (Nat × Itm)), l ≤ xs.length, xs.length - l)) s) (0) (by repeat first | exact sub_nil | refine sub_cons rfl ?_) rfl (Nat.zero_le _) ?_
       rintro l hinv KL293 hKL293
       simp only [sU, sL] at hinv hKL293 ⊢
       have hl3 := hinv
       have hl4 := fillTo_len (fun j => idxI xs (c.th (at0 xs (k : Int)) (at0 xs (j : Int)))) xs.length l
       refine gc_sr fun K294 hK294 => ?_
       refine gv (qt_lss rfl rfl rfl) ?_
       refine gnt (hK294 _ _ ?_)
       refine gc_seq fun K295 hK295 => ?_
       refine gc_cond rfl (fun hc10 => ?_) (fun hc10 => ?_)
       ·try simp only [sA] at hc10
        refine gc_skip ?_
        refine gk_then (hK295 _ _ ?_)
        refine gc_seq fun K296 hK296 => ?_
        refine gc_block ?_
        refine gc_sr fun K297 hK297 => ?_
        refine gm ?_
        refine gv (qti (fun w M => lenA_rd hu)) ?_
        refine gv (qtd (fun w M => mem_rd M hu)) ?_
        refine gas ?_
        refine gas ?_
        refine gnt (hK297 _ _ ?_)
        have hk1 := allP_k hx (k := k) (by omega)
        have hA := arrP hS hk1.1 hk1.2
        have a0 := hk1.1; have a1 := hk1.2; have a2 := hA.fs; have a3 := hA.fm; have a4 := hA.row; have a5 := hA.ft
        have hl1 := allP_k hx (k := l) (by omega)
        have b0 := hl1.1; have b1 := hl1.2
        refine gc_region ?_
        refine gm ?_
        refine gm ?_
        refine gm ?_
        refine gv (qts Try.underlying44 (n := 0)) ?_
        refine gm ?_
        refine gm ?_
        refine g_q (.free rfl) rfl rfl (qt_call rfl Try.func110 rfl (by decide) rfl (fun w M => then_any w _ _ _ _ (mem_rdC M h0) (by first | assumption | omega) (by first | assumption | omega) (by first | assumption | omega) (by first | assumption | omega))) ?_
        refine g_q (.free rfl) rfl rfl (qt_call rfl Try.func109 rfl (by decide) rfl (fun w M => placeIn_any w _ _ _ (mem_rd M hu))) ?_
        refine gv (qti (fun w M => lenA_own1 (n := 10) rfl M)) ?_
        refine gop fun K298 hK298 => ?_
        refine go_store1 (n := 10) rfl rfl rfl rfl (by kernel_rfl) rfl (by omega) (by omega) ?_
        refine hK298 _ _ ?_
        refine g_nil ?_
        refine gk_block ?_
        refine gk_then (hK296 _ _ ?_)
        refine gc_region ?_
        refine gv (qt_add rfl rfl rfl (by omega)) ?_
        refine gm ?_
        refine g_nil ?_
        rw [fillTo_set (fun j => idxI xs (c.th (at0 xs (k : Int)) (at0 xs (j : Int)))) (by omega)]
        refine gk_then (gk_take 11 ?_)
        refine gk_sub ?hs_299 (hKL293 (l + 1) ?hi_299 ?hm_299)
        case hs_299 => repeat first | exact sub_nil | refine sub_cons rfl ?_
        case hi_299 => omega
        case hm_299 => omega
       ·try simp only [sA] at hc10
        refine gc_exit ?_
        refine gk_then_exit ?_
        refine gk_then_exit ?_
        refine gk_block_hit ?_
        refine gk_then (hK291 _ _ ?_)
        refine gc_region ?_
        refine gv (qtf Try.underlying44 (z := 0) (off := 4)) ?_
        refine gv (qtl Try.underlying32 (n := 3)) ?_
        refine gm ?_
        refine gop fun K301 hK301 => ?_
        refine go_sliceR1 (m := 10) rfl rfl rfl rfl Try.underlying32 rfl ?_
        intro B300
        refine hK301 _ _ ?_
        refine gop fun K303 hK303 => ?_
        refine go_appendRow (n := 7) (m := 10) (m' := 9) rfl rfl rfl Try.underlying32 rfl rfl rfl rfl rfl (by omega) ?_
        intro va302 vc302
        refine hK303 _ _ ?_
        refine gv (qtf Try.underlying44 (z := 0) (off := 4)) ?_
        refine gop fun K304 hK304 => ?_
        refine go_storeB (n := 3) rfl rfl rfl rfl (by kernel_rfl) rfl rfl rfl (by first | decide | simp) ?_
        refine hK304 _ _ ?_
        refine g_nil ?_
        refine gk_block ?_
        refine gk_then (hK50 _ _ ?_)
        refine gc_region ?_
        refine gv (qt_add rfl rfl rfl (by omega)) ?_
        refine gm ?_
        refine g_nil ?_
        obtain rfl : l = xs.length := by omega
        simp only [fillTo_end, rowsTo_succ]
        refine gk_then (gk_take 8 ?_)
        refine gk_sub ?hs_305 (hKL47 (k + 1, _, _, _, _, _, _, _) ?hi_305 ?hm_305)
        case hs_305 => repeat first | exact sub_nil | refine sub_cons rfl ?_
        case hi_305 => omega
        case hm_305 => omega
  ·try simp only [sA] at hc1
   refine gc_exit ?_
   refine gk_then_exit ?_
   refine gk_then_exit ?_
   refine gk_block_hit ?_
   refine gk_then (hK45 _ _ ?_)
   refine gc_sr fun K306 hK306 => ?_
   refine gv (qts Try.underlying44 (n := 3)) ?_
   refine gop fun K307 hK307 => ?_
   refine go_storeS (n := 1) rfl rfl rfl rfl (by kernel_rfl) rfl rfl rfl ?_
   refine hK307 _ _ ?_
   refine gnt (hK306 _ _ ?_)
   refine gc_ret ?_
   refine ret_S (n := 1) rfl rfl Try.underlying44 rfl (by kernel_rfl) rfl (fun w M => ?_)
   obtain rfl : k = xs.length := by omega
   simp only [pE_eq] at M ⊢
   exact ⟨_, rfl, ownC_star (c := partC c xs) (mem_pick (n := 7) (mem_pick (n := 7) (mem_pick (n := 5) (mem_pick (n := 7) (M) rfl) rfl) rfl) rfl).2, M.1⟩

end Go.Proofs.Ytbfenibkbmkcaaa
