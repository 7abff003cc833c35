import Derived.Test.YtpcabkdkdnchaaaGreatN6
import Derived.Test.YtpcabkdkdnchaaaGreatN11
import Derived.Test.YtpcabkdkdnchaaaGreatN14
import Derived.Test.YtpcabkdkdnchaaaGreatN24
set_option linter.unusedSimpArgs false
set_option linter.unusedVariables false
set_option linter.unusedSectionVars false
namespace Go.Proofs.YtpcabkdkdnchaaaGreat
open Go.RowKit
theorem th_def (c : Cat) (f g : Int) : at0 (row2 c.m f) g = c.th f g := rfl
def oppM (c : Cat) : Cat := ⟨c.ob, c.t, c.s, c.e, rowsTo (fun f => tabTo (fun g => c.th g f) c.s.length) c.s.length⟩
noncomputable def fOppositeCategory (c : Cat) : Cat × Int := if fIsCategory c = true then (oppM c, 0) else (cat0, 1)
theorem opp_f {c : Cat} (h : fIsCategory c = false) : fOppositeCategory c = (cat0, 1) := if_neg (by rw [h]; decide)
theorem opp_t {c : Cat} (h : fIsCategory c = true) : fOppositeCategory c = (oppM c, 0) := if_pos h
def entO (c : Cat) (f : Nat) : Ent Int := (at0 c.t f, at0 c.s f, (f : Int))
theorem entO_def (c : Cat) (k : Nat) : (at0 c.t (k : Int), at0 c.s (k : Int), (k : Int)) = entO c k := rfl
theorem entO_inj (c : Cat) (i j : Nat) (h : entO c i = entO c j) : i = j := by simp only [entO, Prod.mk.injEq] at h; omega
set_option maxHeartbeats 1000000 in
set_option maxRecDepth 100000 in
theorem specOp_any (w : World) (v : Value) (c : Cat) (h : RdC w v c) (hS : ShapeP c) :
  Calls Tryz.prog 104 #[v] w (RetC w (oppM c)) := by
 have h0 := h
 obtain ⟨va, vb, vc, vd, ve, vf, vg, vh, rfl, h1, h2, h3, h4, _⟩ := h.lists
 have hn40 := hS.n40; have htl := hS.tl; have hel := hS.el; have hob0 := hS.ob0; have hob8 := hS.ob8; have hml := hS.ml
 go_enter Tryz.func104, Tryz.ntmps104
 refine gc_enter (N := 53) rfl (look_cons (k := 0) rfl (look_nil _)) ?_
 refine gc_sr fun K1 hK1 => ?_
 refine gop fun K3 hK3 => ?_
 refine go_box rfl rfl rfl rfl rfl ?_
 intro B2
 refine hK3 _ _ ?_
 refine gop fun K5 hK5 => ?_
 refine go_alloc (z := (.agg #[.int .i64 0, .slice none 0 0, .slice none 0 0, .slice none 0 0, .slice none 0 0])) (cs := [.int .i64 0, .slice none 0 0, .slice none 0 0, .slice none 0 0, .slice none 0 0]) rfl rfl rfl (fun w => by kernel_rfl) rfl ?_
 intro B4
 refine hK5 _ _ ?_
 refine gnt (hK1 _ _ ?_)
 refine gc_seq fun K6 hK6 => ?_
 try simp only [sL]
 refine gc_cut ([(0, _), (1, _), (2, _)] : Env) (fun s : Nat × (Option Addr) × Nat × (Option Addr) × Nat × (Option Addr) × Nat × Nat => (fun (B : Nat) (a1 : Option Addr) (q1 : Nat) (a2 : Option Addr) (q2 : Nat) (a3 : Option Addr) (q3 : Nat) (B4 : Nat) => ([(3, .pointer (some ⟨B, 0, none⟩))] : Env)) s.1 s.2.1 s.2.2.1 s.2.2.2.1 s.2.2.2.2.1 s.2.2.2.2.2.1 s.2.2.2.2.2.2.1 s.2.2.2.2.2.2.2) (fun s : Nat × (Option Addr) × Nat × (Option Addr) × Nat × (Option Addr) × Nat × Nat => (fun (B : Nat) (a1 : Option Addr) (q1 : Nat) (a2 : Option Addr) (q2 : Nat) (a3 : Option Addr) (q3 : Nat) (B4 : Nat) => ([] : List (Nat × Itm))) s.1 s.2.1 s.2.2.1 s.2.2.2.1 s.2.2.2.2.1 s.2.2.2.2.2.1 s.2.2.2.2.2.2.1 s.2.2.2.2.2.2.2) (fun s : Nat × (Option Addr) × Nat × (Option Addr) × Nat × (Option Addr) × Nat × Nat => (fun (B : Nat) (a1 : Option Addr) (q1 : Nat) (a2 : Option Addr) (q2 : Nat) (a3 : Option Addr) (q3 : Nat) (B4 : Nat) => ([own1I (.slice a1 c.t.length q1) c.t, own1I (.slice a2 c.s.length q2) c.s, own1I (.slice a3 c.e.length q3) c.e, own2U (.slice (some ⟨B4, 0, none⟩) 0 0) [] [], bxI B 29 [.int .i64 c.ob, .slice a1 c.t.length q1, .slice a2 c.s.length q2, .slice a3 c.e.length q3, .slice (some ⟨B4, 0, none⟩) 0 0]] : List Itm)) s.1 s.2.1 s.2.2.1 s.2.2.2.1 s.2.2.2.2.1 s.2.2.2.2.2.1 s.2.2.2.2.2.2.1 s.2.2.2.2.2.2.2) (by repeat first | exact sub_nil | refine sub_cons rfl ?_) ?_ (fun HJ7 => ?_)
 ·rintro ⟨B, a1, q1, a2, q2, a3, q3, B4⟩
  simp only [sU, sL]
  refine gk_then (hK6 _ _ ?_)
  refine gc_seq fun K8 hK8 => ?_
  refine gc_sr fun K9 hK9 => ?_
  refine gas ?_
  refine gnt (hK9 _ _ ?_)
  refine gc_block ?_
  try simp only [sL]
  refine gc_loopT ([(0, _), (1, _), (2, _), (3, _)] : Env) (fun s : Nat × (Option Addr) × Nat × (List Value) => (fun (k : Nat) (a : Option Addr) (q : Nat) (us : List Value) => (([(4, .int .i64 (k : Int))] : Env), ([(5, own2U (.slice a (rowsTo (fun f => tabTo (fun g => c.th g f) c.s.length) k).length q) us (rowsTo (fun f => tabTo (fun g => c.th g f) c.s.length) k)), (6, bxI B 29 [.int .i64 c.ob, .slice a1 c.t.length q1, .slice a2 c.s.length q2, .slice a3 c.e.length q3, .slice a (rowsTo (fun f => tabTo (fun g => c.th g f) c.s.length) k).length q])] : List (Nat × Itm)), k ≤ c.s.length, c.s.length - k)) s.1 s.2.1 s.2.2.1 s.2.2.2) ((0, _, _, _)) (by repeat first | exact sub_nil | refine sub_cons rfl ?_) rfl (Nat.zero_le _) ?_
  rintro ⟨k, a, q, us⟩ hinv KL10 hKL10
  simp only [sU, sL] at hinv hKL10 ⊢
  have hk := hinv
  have hl := rowsTo_len (fun f => tabTo (fun g => c.th g f) c.s.length) k
  refine gc_seq fun K11 hK11 => ?_
  refine gc_sr fun K12 hK12 => ?_
  refine gm ?_
  refine gv (qtf Tryz.underlying29 (z := 0) (off := 1)) ?_
  refine gv (qtl Tryz.underlying22 (n := 0)) ?_
  refine gv (qln (fun w M => lenV_rd h1)) ?_
  refine gv (qt_lss rfl rfl rfl) ?_
  refine gnt (hK12 _ _ ?_)
  refine gc_cond rfl (fun hc0 => ?_) (fun hc0 => ?_)
  ·try simp only [sA] at hc0
   refine gc_skip ?_
   refine gk_then (hK11 _ _ ?_)
   refine gc_seq fun K13 hK13 => ?_
   refine gc_block ?_
   refine gc_sr fun K14 hK14 => ?_
   refine gop fun K16 hK16 => ?_
   refine go_slice0 rfl rfl rfl Tryz.underlying22 ?_
   intro B15
   refine hK16 _ _ ?_
   refine gas ?_
   refine gnt (hK14 _ _ ?_)
   refine gc_seq fun K17 hK17 => ?_
   refine gc_sr fun K18 hK18 => ?_
   refine gas ?_
   refine gnt (hK18 _ _ ?_)
   refine gc_block ?_
   try simp only [sL]
   refine gc_loopT ([(0, _), (1, _), (2, _), (3, _), (4, _), (24, _)] : Env) (fun s : Nat × (Option Addr) × Nat => (fun (l : Nat) (b : Option Addr) (r : Nat) => (([(5, .slice b (tabTo (fun g => c.th g k) l).length r), (6, .int .i64 (l : Int))] : Env), ([(7, own1I (.slice b (tabTo (fun g => c.th g k) l).length r) (tabTo (fun g => c.th g k) l))] : List (Nat × Itm)), l ≤ c.s.length, c.s.length - l)) s.1 s.2.1 s.2.2) (0, _, _) (by repeat first | exact sub_nil | refine sub_cons rfl ?_) rfl (Nat.zero_le _) ?_
   rintro ⟨l, b, r⟩ hinv KL19 hKL19
   simp only [sU, sL] at hinv hKL19 ⊢
   have hl1 := hinv
   have hl2 := tabTo_len (fun g => c.th g k) l
   refine gc_seq fun K20 hK20 => ?_
   refine gc_sr fun K21 hK21 => ?_
   refine gm ?_
   refine gv (qtf Tryz.underlying29 (z := 0) (off := 1)) ?_
   refine gv (qtl Tryz.underlying22 (n := 0)) ?_
   refine gv (qln (fun w M => lenV_rd h1)) ?_
   refine gv (qt_lss rfl rfl rfl) ?_
   refine gnt (hK21 _ _ ?_)
   refine gc_cond rfl (fun hc1 => ?_) (fun hc1 => ?_)
   ·try simp only [sA] at hc1
    refine gc_skip ?_
    refine gk_then (hK20 _ _ ?_)
    refine gc_seq fun K22 hK22 => ?_
    refine gc_block ?_
    have hA := arrP hS (f := (l : Int)) (by omega) (by omega)
    have a3 := hA.fm; have a4 := hA.row
    refine gc_region ?_
    refine gm ?_
    refine gv (qtf Tryz.underlying29 (z := 0) (off := 4)) ?_
    refine gv (qtl Tryz.underlying23 (n := 0)) ?_
    refine gm ?_
    refine gv (qti2 (fun w M => lenA_rd2 h4)) ?_
    refine g_load2 (.free rfl) rfl rfl rfl rfl Tryz.underlying22 rfl h4 (by omega) (by omega) ?_
    intro ra23 rc23 hr23
    refine gm ?_
    refine gv (qti (fun w M => lenA_rd hr23)) ?_
    refine gv (qtd (fun w M => mem_rd M hr23)) ?_
    refine gop fun K25 hK25 => ?_
    refine go_slice1 rfl rfl rfl rfl Tryz.underlying22 ?_
    intro B24
    refine hK25 _ _ ?_
    refine gop fun K27 hK27 => ?_
    refine go_append (n := 7) (m := 8) rfl rfl rfl Tryz.underlying22 rfl rfl rfl rfl (by omega) ?_
    intro va26 vc26
    refine hK27 _ _ ?_
    refine gas ?_
    refine g_nil ?_
    refine gk_block ?_
    refine gk_then (hK22 _ _ ?_)
    refine gc_region ?_
    refine gm ?_
    refine gv (qt_add rfl rfl rfl (by omega)) ?_
    refine gas ?_
    refine g_nil ?_
    simp only [th_def, tabTo_succ]
    refine gk_then (gk_take 8 ?_)
    refine gk_sub ?hs_28 (hKL19 (l + 1, _, _) ?hi_28 ?hm_28)
    case hs_28 => repeat first | exact sub_nil | refine sub_cons rfl ?_
    case hi_28 => omega
    case hm_28 => omega
   ·try simp only [sA] at hc1
    refine gc_exit ?_
    refine gk_then_exit ?_
    refine gk_then_exit ?_
    refine gk_block_hit ?_
    refine gk_then (hK17 _ _ ?_)
    refine gc_region ?_
    refine gv (qtf Tryz.underlying29 (z := 0) (off := 4)) ?_
    refine gv (qtl Tryz.underlying23 (n := 6)) ?_
    refine gm ?_
    refine gop fun K30 hK30 => ?_
    refine go_sliceR1 (m := 7) rfl rfl rfl rfl Tryz.underlying23 rfl ?_
    intro B29
    refine hK30 _ _ ?_
    refine gop fun K32 hK32 => ?_
    refine go_appendRow (n := 5) (m := 7) (m' := 6) rfl rfl rfl Tryz.underlying23 rfl rfl rfl rfl rfl (by omega) ?_
    intro va31 vc31
    refine hK32 _ _ ?_
    refine gv (qtf Tryz.underlying29 (z := 0) (off := 4)) ?_
    refine gop fun K33 hK33 => ?_
    refine go_storeB (n := 6) rfl rfl rfl rfl (by kernel_rfl) rfl rfl rfl (by first | decide | simp) ?_
    refine hK33 _ _ ?_
    refine g_nil ?_
    refine gk_block ?_
    refine gk_then (hK13 _ _ ?_)
    refine gc_region ?_
    refine gm ?_
    refine gv (qt_add rfl rfl rfl (by omega)) ?_
    refine gas ?_
    refine g_nil ?_
    obtain rfl : l = c.s.length := by omega
    simp only [rowsTo_succ]
    refine gk_then (gk_take 7 ?_)
    refine gk_sub ?hs_34 (hKL10 (k + 1, _, _, _) ?hi_34 ?hm_34)
    case hs_34 => repeat first | exact sub_nil | refine sub_cons rfl ?_
    case hi_34 => omega
    case hm_34 => omega
  ·try simp only [sA] at hc0
   refine gc_exit ?_
   refine gk_then_exit ?_
   refine gk_then_exit ?_
   refine gk_block_hit ?_
   refine gk_then (hK8 _ _ ?_)
   refine gc_sr fun K35 hK35 => ?_
   refine gv (qts Tryz.underlying29 (n := 6)) ?_
   refine gop fun K36 hK36 => ?_
   refine go_storeS (n := 1) rfl rfl rfl rfl (by kernel_rfl) rfl rfl rfl ?_
   refine hK36 _ _ ?_
   refine gnt (hK35 _ _ ?_)
   refine gc_ret ?_
   refine ret_S (n := 1) rfl rfl Tryz.underlying29 rfl (by kernel_rfl) rfl (fun w M => ?_)
   obtain rfl : k = c.s.length := by omega
   exact ⟨_, rfl, ownC_star (c := oppM c) (mem_pick (n := 5) (mem_pick (n := 5) (mem_pick (n := 5) (mem_pick (n := 5) (M) rfl) rfl) rfl) rfl).2, M.1⟩
 simp only [sU, sL] at HJ7
 refine ga_start _ (fun w M => M) ?_
 refine gav 0 rfl (qtf Tryz.underlying29 (z := 0) (off := 0)) ?_
 refine gav 1 rfl (qtl Tryz.underlying2 (n := 0)) ?_
 refine gav 2 rfl (qtf Tryz.underlying29 (z := 0) (off := 2)) ?_
 refine gav 3 rfl (qtl Tryz.underlying22 (n := 0)) ?_
 refine gav 5 rfl (qtf Tryz.underlying29 (z := 0) (off := 1)) ?_
 refine gav 6 rfl (qtl Tryz.underlying22 (n := 0)) ?_
 refine gav 8 rfl (qtf Tryz.underlying29 (z := 0) (off := 3)) ?_
 refine gav 9 rfl (qtl Tryz.underlying22 (n := 0)) ?_
 refine ga_three 4 11 13 (by kernel_rfl) rfl (.free rfl) rfl (.free rfl) rfl (.free rfl) (fun K37 hK37 => ?_) (fun K37 hK37 => ?_) (fun K37 hK37 => ?_)
 ·refine go_callL rfl rfl rfl Tryz.func79 rfl (by decide) rfl (fun w M => specOwn_any w _ _ (mem_rd M h2)) ?_
  intro va38 vc38
  refine hK37 _ _ (fun w M => (mem_take 2 M :)) ?_
  refine ga_three 7 11 13 (by kernel_rfl) rfl (.free rfl) rfl (.free rfl) rfl (.free rfl) (fun K40 hK40 => ?_) (fun K40 hK40 => ?_) (fun K40 hK40 => ?_)
  ·refine go_callL rfl rfl rfl Tryz.func79 rfl (by decide) rfl (fun w M => specOwn_any w _ _ (mem_rd M h1)) ?_
   intro va41 vc41
   refine hK40 _ _ (fun w M => (mem_take 2 M :)) ?_
   refine ga_three 10 11 13 (by kernel_rfl) rfl (.free rfl) rfl (.free rfl) rfl (.free rfl) (fun K43 hK43 => ?_) (fun K43 hK43 => ?_) (fun K43 hK43 => ?_)
   ·refine go_callL rfl rfl rfl Tryz.func79 rfl (by decide) rfl (fun w M => specOwn_any w _ _ (mem_rd M h3)) ?_
    intro va44 vc44
    refine hK43 _ _ (fun w M => (mem_take 2 M :)) ?_
    refine ga_two 11 13 (by kernel_rfl) rfl rfl (.free rfl) (.free rfl) (fun K46 hK46 => ?_) (fun K46 hK46 => ?_)
    ·refine go_sliceR0 rfl rfl rfl Tryz.underlying23 ?_
     intro B47
     refine hK46 _ _ (fun w M => (mem_take 2 M :)) ?_
     refine gav 12 rfl (qt_build rfl rfl bt_Category) ?_
     refine gao 13 fun K50 hK50 => ?_
     refine go_alloc (z := (.agg #[.int .i64 0, .slice none 0 0, .slice none 0 0, .slice none 0 0, .slice none 0 0])) (cs := [.int .i64 0, .slice none 0 0, .slice none 0 0, .slice none 0 0, .slice none 0 0]) rfl rfl rfl (fun w => by kernel_rfl) rfl ?_
     intro B49
     refine hK50 _ _ (fun w M => (mem_take 2 M :)) ?_
     refine gao 14 fun K51 hK51 => ?_
     refine go_storeS (n := 6) rfl rfl rfl rfl (by kernel_rfl) rfl rfl rfl ?_
     refine hK51 _ _ (fun w M => (mem_take 2 M :)) ?_
     refine ga_done (by kernel_rfl) ?_
     refine gk_pickL [0, 0, 0, 0, 0, 0, 0] ?_
     refine gk_sub ?hs_52 (HJ7 (_, _, _, _, _, _, _, _))
     case hs_52 => repeat first | exact sub_nil | refine sub_cons rfl ?_
    ·refine go_alloc (z := (.agg #[.int .i64 0, .slice none 0 0, .slice none 0 0, .slice none 0 0, .slice none 0 0])) (cs := [.int .i64 0, .slice none 0 0, .slice none 0 0, .slice none 0 0, .slice none 0 0]) rfl rfl rfl (fun w => by kernel_rfl) rfl ?_
     intro B53
     refine hK46 _ _ (fun w M => (mem_take 2 M :)) ?_
     refine gao 11 fun K56 hK56 => ?_
     refine go_sliceR0 rfl rfl rfl Tryz.underlying23 ?_
     intro B55
     refine hK56 _ _ (fun w M => (mem_take 2 M :)) ?_
     refine gav 12 rfl (qt_build rfl rfl bt_Category) ?_
     refine gao 14 fun K57 hK57 => ?_
     refine go_storeS (n := 5) rfl rfl rfl rfl (by kernel_rfl) rfl rfl rfl ?_
     refine hK57 _ _ (fun w M => (mem_take 2 M :)) ?_
     refine ga_done (by kernel_rfl) ?_
     refine gk_pickL [0, 0, 0, 0, 0, 1, 0] ?_
     refine gk_sub ?hs_58 (HJ7 (_, _, _, _, _, _, _, _))
     case hs_58 => repeat first | exact sub_nil | refine sub_cons rfl ?_
   ·refine go_sliceR0 rfl rfl rfl Tryz.underlying23 ?_
    intro B59
    refine hK43 _ _ (fun w M => (mem_take 2 M :)) ?_
    refine ga_two 10 13 (by kernel_rfl) rfl rfl (.free rfl) (.free rfl) (fun K61 hK61 => ?_) (fun K61 hK61 => ?_)
    ·refine go_callL rfl rfl rfl Tryz.func79 rfl (by decide) rfl (fun w M => specOwn_any w _ _ (mem_rd M h3)) ?_
     intro va62 vc62
     refine hK61 _ _ (fun w M => (mem_take 2 M :)) ?_
     refine gav 12 rfl (qt_build rfl rfl bt_Category) ?_
     refine gao 13 fun K65 hK65 => ?_
     refine go_alloc (z := (.agg #[.int .i64 0, .slice none 0 0, .slice none 0 0, .slice none 0 0, .slice none 0 0])) (cs := [.int .i64 0, .slice none 0 0, .slice none 0 0, .slice none 0 0, .slice none 0 0]) rfl rfl rfl (fun w => by kernel_rfl) rfl ?_
     intro B64
     refine hK65 _ _ (fun w M => (mem_take 2 M :)) ?_
     refine gao 14 fun K66 hK66 => ?_
     refine go_storeS (n := 6) rfl rfl rfl rfl (by kernel_rfl) rfl rfl rfl ?_
     refine hK66 _ _ (fun w M => (mem_take 2 M :)) ?_
     refine ga_done (by kernel_rfl) ?_
     refine gk_pickL [0, 0, 0, 0, 1, 0, 0] ?_
     refine gk_sub ?hs_67 (HJ7 (_, _, _, _, _, _, _, _))
     case hs_67 => repeat first | exact sub_nil | refine sub_cons rfl ?_
    ·refine go_alloc (z := (.agg #[.int .i64 0, .slice none 0 0, .slice none 0 0, .slice none 0 0, .slice none 0 0])) (cs := [.int .i64 0, .slice none 0 0, .slice none 0 0, .slice none 0 0, .slice none 0 0]) rfl rfl rfl (fun w => by kernel_rfl) rfl ?_
     intro B68
     refine hK61 _ _ (fun w M => (mem_take 2 M :)) ?_
     refine gao 10 fun K71 hK71 => ?_
     refine go_callL rfl rfl rfl Tryz.func79 rfl (by decide) rfl (fun w M => specOwn_any w _ _ (mem_rd M h3)) ?_
     intro va70 vc70
     refine hK71 _ _ (fun w M => (mem_take 2 M :)) ?_
     refine gav 12 rfl (qt_build rfl rfl bt_Category) ?_
     refine gao 14 fun K72 hK72 => ?_
     refine go_storeS (n := 5) rfl rfl rfl rfl (by kernel_rfl) rfl rfl rfl ?_
     refine hK72 _ _ (fun w M => (mem_take 2 M :)) ?_
     refine ga_done (by kernel_rfl) ?_
     refine gk_pickL [0, 0, 0, 0, 2, 0, 0] ?_
     refine gk_sub ?hs_73 (HJ7 (_, _, _, _, _, _, _, _))
     case hs_73 => repeat first | exact sub_nil | refine sub_cons rfl ?_
   ·refine go_alloc (z := (.agg #[.int .i64 0, .slice none 0 0, .slice none 0 0, .slice none 0 0, .slice none 0 0])) (cs := [.int .i64 0, .slice none 0 0, .slice none 0 0, .slice none 0 0, .slice none 0 0]) rfl rfl rfl (fun w => by kernel_rfl) rfl ?_
    intro B74
    refine hK43 _ _ (fun w M => (mem_take 2 M :)) ?_
    refine ga_two 10 11 (by kernel_rfl) rfl rfl (.free rfl) (.free rfl) (fun K76 hK76 => ?_) (fun K76 hK76 => ?_)
    ·refine go_callL rfl rfl rfl Tryz.func79 rfl (by decide) rfl (fun w M => specOwn_any w _ _ (mem_rd M h3)) ?_
     intro va77 vc77
     refine hK76 _ _ (fun w M => (mem_take 2 M :)) ?_
     refine gao 11 fun K80 hK80 => ?_
     refine go_sliceR0 rfl rfl rfl Tryz.underlying23 ?_
     intro B79
     refine hK80 _ _ (fun w M => (mem_take 2 M :)) ?_
     refine gav 12 rfl (qt_build rfl rfl bt_Category) ?_
     refine gao 14 fun K81 hK81 => ?_
     refine go_storeS (n := 4) rfl rfl rfl rfl (by kernel_rfl) rfl rfl rfl ?_
     refine hK81 _ _ (fun w M => (mem_take 2 M :)) ?_
     refine ga_done (by kernel_rfl) ?_
     refine gk_pickL [0, 0, 0, 0, 1, 1, 0] ?_
     refine gk_sub ?hs_82 (HJ7 (_, _, _, _, _, _, _, _))
     case hs_82 => repeat first | exact sub_nil | refine sub_cons rfl ?_
    ·refine go_sliceR0 rfl rfl rfl Tryz.underlying23 ?_
     intro B83
     refine hK76 _ _ (fun w M => (mem_take 2 M :)) ?_
     refine gao 10 fun K86 hK86 => ?_
     refine go_callL rfl rfl rfl Tryz.func79 rfl (by decide) rfl (fun w M => specOwn_any w _ _ (mem_rd M h3)) ?_
     intro va85 vc85
     refine hK86 _ _ (fun w M => (mem_take 2 M :)) ?_
     refine gav 12 rfl (qt_build rfl rfl bt_Category) ?_
     refine gao 14 fun K87 hK87 => ?_
     refine go_storeS (n := 4) rfl rfl rfl rfl (by kernel_rfl) rfl rfl rfl ?_
     refine hK87 _ _ (fun w M => (mem_take 2 M :)) ?_
     refine ga_done (by kernel_rfl) ?_
     refine gk_pickL [0, 0, 0, 0, 2, 1, 0] ?_
     refine gk_sub ?hs_88 (HJ7 (_, _, _, _, _, _, _, _))
     case hs_88 => repeat first | exact sub_nil | refine sub_cons rfl ?_
  ·refine go_sliceR0 rfl rfl rfl Tryz.underlying23 ?_
   intro B89
   refine hK40 _ _ (fun w M => (mem_take 2 M :)) ?_
   refine ga_two 7 13 (by kernel_rfl) rfl rfl (.free rfl) (.free rfl) (fun K91 hK91 => ?_) (fun K91 hK91 => ?_)
   ·refine go_callL rfl rfl rfl Tryz.func79 rfl (by decide) rfl (fun w M => specOwn_any w _ _ (mem_rd M h1)) ?_
    intro va92 vc92
    refine hK91 _ _ (fun w M => (mem_take 2 M :)) ?_
    refine ga_two 10 13 (by kernel_rfl) rfl rfl (.free rfl) (.free rfl) (fun K94 hK94 => ?_) (fun K94 hK94 => ?_)
    ·refine go_callL rfl rfl rfl Tryz.func79 rfl (by decide) rfl (fun w M => specOwn_any w _ _ (mem_rd M h3)) ?_
     intro va95 vc95
     refine hK94 _ _ (fun w M => (mem_take 2 M :)) ?_
     refine gav 12 rfl (qt_build rfl rfl bt_Category) ?_
     refine gao 13 fun K98 hK98 => ?_
     refine go_alloc (z := (.agg #[.int .i64 0, .slice none 0 0, .slice none 0 0, .slice none 0 0, .slice none 0 0])) (cs := [.int .i64 0, .slice none 0 0, .slice none 0 0, .slice none 0 0, .slice none 0 0]) rfl rfl rfl (fun w => by kernel_rfl) rfl ?_
     intro B97
     refine hK98 _ _ (fun w M => (mem_take 2 M :)) ?_
     refine gao 14 fun K99 hK99 => ?_
     refine go_storeS (n := 6) rfl rfl rfl rfl (by kernel_rfl) rfl rfl rfl ?_
     refine hK99 _ _ (fun w M => (mem_take 2 M :)) ?_
     refine ga_done (by kernel_rfl) ?_
     refine gk_pickL [0, 0, 0, 1, 1, 0, 0] ?_
     refine gk_sub ?hs_100 (HJ7 (_, _, _, _, _, _, _, _))
     case hs_100 => repeat first | exact sub_nil | refine sub_cons rfl ?_
    ·refine go_alloc (z := (.agg #[.int .i64 0, .slice none 0 0, .slice none 0 0, .slice none 0 0, .slice none 0 0])) (cs := [.int .i64 0, .slice none 0 0, .slice none 0 0, .slice none 0 0, .slice none 0 0]) rfl rfl rfl (fun w => by kernel_rfl) rfl ?_
     intro B101
     refine hK94 _ _ (fun w M => (mem_take 2 M :)) ?_
     refine gao 10 fun K104 hK104 => ?_
     refine go_callL rfl rfl rfl Tryz.func79 rfl (by decide) rfl (fun w M => specOwn_any w _ _ (mem_rd M h3)) ?_
     intro va103 vc103
     refine hK104 _ _ (fun w M => (mem_take 2 M :)) ?_
     refine gav 12 rfl (qt_build rfl rfl bt_Category) ?_
     refine gao 14 fun K105 hK105 => ?_
     refine go_storeS (n := 5) rfl rfl rfl rfl (by kernel_rfl) rfl rfl rfl ?_
     refine hK105 _ _ (fun w M => (mem_take 2 M :)) ?_
     refine ga_done (by kernel_rfl) ?_
     refine gk_pickL [0, 0, 0, 1, 2, 0, 0] ?_
     refine gk_sub ?hs_106 (HJ7 (_, _, _, _, _, _, _, _))
     case hs_106 => repeat first | exact sub_nil | refine sub_cons rfl ?_
   ·refine go_alloc (z := (.agg #[.int .i64 0, .slice none 0 0, .slice none 0 0, .slice none 0 0, .slice none 0 0])) (cs := [.int .i64 0, .slice none 0 0, .slice none 0 0, .slice none 0 0, .slice none 0 0]) rfl rfl rfl (fun w => by kernel_rfl) rfl ?_
    intro B107
    refine hK91 _ _ (fun w M => (mem_take 2 M :)) ?_
    refine gao 7 fun K110 hK110 => ?_
    refine go_callL rfl rfl rfl Tryz.func79 rfl (by decide) rfl (fun w M => specOwn_any w _ _ (mem_rd M h1)) ?_
    intro va109 vc109
    refine hK110 _ _ (fun w M => (mem_take 2 M :)) ?_
    refine gao 10 fun K112 hK112 => ?_
    refine go_callL rfl rfl rfl Tryz.func79 rfl (by decide) rfl (fun w M => specOwn_any w _ _ (mem_rd M h3)) ?_
    intro va111 vc111
    refine hK112 _ _ (fun w M => (mem_take 2 M :)) ?_
    refine gav 12 rfl (qt_build rfl rfl bt_Category) ?_
    refine gao 14 fun K113 hK113 => ?_
    refine go_storeS (n := 4) rfl rfl rfl rfl (by kernel_rfl) rfl rfl rfl ?_
    refine hK113 _ _ (fun w M => (mem_take 2 M :)) ?_
    refine ga_done (by kernel_rfl) ?_
    refine gk_pickL [0, 0, 0, 2, 2, 0, 0] ?_
    refine gk_sub ?hs_114 (HJ7 (_, _, _, _, _, _, _, _))
    case hs_114 => repeat first | exact sub_nil | refine sub_cons rfl ?_
  ·refine go_alloc (z := (.agg #[.int .i64 0, .slice none 0 0, .slice none 0 0, .slice none 0 0, .slice none 0 0])) (cs := [.int .i64 0, .slice none 0 0, .slice none 0 0, .slice none 0 0, .slice none 0 0]) rfl rfl rfl (fun w => by kernel_rfl) rfl ?_
   intro B115
   refine hK40 _ _ (fun w M => (mem_take 2 M :)) ?_
   refine ga_two 7 11 (by kernel_rfl) rfl rfl (.free rfl) (.free rfl) (fun K117 hK117 => ?_) (fun K117 hK117 => ?_)
   ·refine go_callL rfl rfl rfl Tryz.func79 rfl (by decide) rfl (fun w M => specOwn_any w _ _ (mem_rd M h1)) ?_
    intro va118 vc118
    refine hK117 _ _ (fun w M => (mem_take 2 M :)) ?_
    refine ga_two 10 11 (by kernel_rfl) rfl rfl (.free rfl) (.free rfl) (fun K120 hK120 => ?_) (fun K120 hK120 => ?_)
    ·refine go_callL rfl rfl rfl Tryz.func79 rfl (by decide) rfl (fun w M => specOwn_any w _ _ (mem_rd M h3)) ?_
     intro va121 vc121
     refine hK120 _ _ (fun w M => (mem_take 2 M :)) ?_
     refine gao 11 fun K124 hK124 => ?_
     refine go_sliceR0 rfl rfl rfl Tryz.underlying23 ?_
     intro B123
     refine hK124 _ _ (fun w M => (mem_take 2 M :)) ?_
     refine gav 12 rfl (qt_build rfl rfl bt_Category) ?_
     refine gao 14 fun K125 hK125 => ?_
     refine go_storeS (n := 3) rfl rfl rfl rfl (by kernel_rfl) rfl rfl rfl ?_
     refine hK125 _ _ (fun w M => (mem_take 2 M :)) ?_
     refine ga_done (by kernel_rfl) ?_
     refine gk_pickL [0, 0, 0, 1, 1, 1, 0] ?_
     refine gk_sub ?hs_126 (HJ7 (_, _, _, _, _, _, _, _))
     case hs_126 => repeat first | exact sub_nil | refine sub_cons rfl ?_
    ·refine go_sliceR0 rfl rfl rfl Tryz.underlying23 ?_
     intro B127
     refine hK120 _ _ (fun w M => (mem_take 2 M :)) ?_
     refine gao 10 fun K130 hK130 => ?_
     refine go_callL rfl rfl rfl Tryz.func79 rfl (by decide) rfl (fun w M => specOwn_any w _ _ (mem_rd M h3)) ?_
     intro va129 vc129
     refine hK130 _ _ (fun w M => (mem_take 2 M :)) ?_
     refine gav 12 rfl (qt_build rfl rfl bt_Category) ?_
     refine gao 14 fun K131 hK131 => ?_
     refine go_storeS (n := 3) rfl rfl rfl rfl (by kernel_rfl) rfl rfl rfl ?_
     refine hK131 _ _ (fun w M => (mem_take 2 M :)) ?_
     refine ga_done (by kernel_rfl) ?_
     refine gk_pickL [0, 0, 0, 1, 2, 1, 0] ?_
     refine gk_sub ?hs_132 (HJ7 (_, _, _, _, _, _, _, _))
     case hs_132 => repeat first | exact sub_nil | refine sub_cons rfl ?_
   ·refine go_sliceR0 rfl rfl rfl Tryz.underlying23 ?_
    intro B133
    refine hK117 _ _ (fun w M => (mem_take 2 M :)) ?_
    refine gao 7 fun K136 hK136 => ?_
    refine go_callL rfl rfl rfl Tryz.func79 rfl (by decide) rfl (fun w M => specOwn_any w _ _ (mem_rd M h1)) ?_
    intro va135 vc135
    refine hK136 _ _ (fun w M => (mem_take 2 M :)) ?_
    refine gao 10 fun K138 hK138 => ?_
    refine go_callL rfl rfl rfl Tryz.func79 rfl (by decide) rfl (fun w M => specOwn_any w _ _ (mem_rd M h3)) ?_
    intro va137 vc137
    refine hK138 _ _ (fun w M => (mem_take 2 M :)) ?_
    refine gav 12 rfl (qt_build rfl rfl bt_Category) ?_
    refine gao 14 fun K139 hK139 => ?_
    refine go_storeS (n := 3) rfl rfl rfl rfl (by kernel_rfl) rfl rfl rfl ?_
    refine hK139 _ _ (fun w M => (mem_take 2 M :)) ?_
    refine ga_done (by kernel_rfl) ?_
    refine gk_pickL [0, 0, 0, 2, 2, 1, 0] ?_
    refine gk_sub ?hs_140 (HJ7 (_, _, _, _, _, _, _, _))
    case hs_140 => repeat first | exact sub_nil | refine sub_cons rfl ?_
 ·refine go_sliceR0 rfl rfl rfl Tryz.underlying23 ?_
  intro B141
  refine hK37 _ _ (fun w M => (mem_take 2 M :)) ?_
  refine ga_two 4 13 (by kernel_rfl) rfl rfl (.free rfl) (.free rfl) (fun K143 hK143 => ?_) (fun K143 hK143 => ?_)
  ·refine go_callL rfl rfl rfl Tryz.func79 rfl (by decide) rfl (fun w M => specOwn_any w _ _ (mem_rd M h2)) ?_
   intro va144 vc144
   refine hK143 _ _ (fun w M => (mem_take 2 M :)) ?_
   refine ga_two 7 13 (by kernel_rfl) rfl rfl (.free rfl) (.free rfl) (fun K146 hK146 => ?_) (fun K146 hK146 => ?_)
   ·refine go_callL rfl rfl rfl Tryz.func79 rfl (by decide) rfl (fun w M => specOwn_any w _ _ (mem_rd M h1)) ?_
    intro va147 vc147
    refine hK146 _ _ (fun w M => (mem_take 2 M :)) ?_
    refine ga_two 10 13 (by kernel_rfl) rfl rfl (.free rfl) (.free rfl) (fun K149 hK149 => ?_) (fun K149 hK149 => ?_)
    ·refine go_callL rfl rfl rfl Tryz.func79 rfl (by decide) rfl (fun w M => specOwn_any w _ _ (mem_rd M h3)) ?_
     intro va150 vc150
     refine hK149 _ _ (fun w M => (mem_take 2 M :)) ?_
     refine gav 12 rfl (qt_build rfl rfl bt_Category) ?_
     refine gao 13 fun K153 hK153 => ?_
     refine go_alloc (z := (.agg #[.int .i64 0, .slice none 0 0, .slice none 0 0, .slice none 0 0, .slice none 0 0])) (cs := [.int .i64 0, .slice none 0 0, .slice none 0 0, .slice none 0 0, .slice none 0 0]) rfl rfl rfl (fun w => by kernel_rfl) rfl ?_
     intro B152
     refine hK153 _ _ (fun w M => (mem_take 2 M :)) ?_
     refine gao 14 fun K154 hK154 => ?_
     refine go_storeS (n := 6) rfl rfl rfl rfl (by kernel_rfl) rfl rfl rfl ?_
     refine hK154 _ _ (fun w M => (mem_take 2 M :)) ?_
     refine ga_done (by kernel_rfl) ?_
     refine gk_pickL [0, 0, 1, 1, 1, 0, 0] ?_
     refine gk_sub ?hs_155 (HJ7 (_, _, _, _, _, _, _, _))
     case hs_155 => repeat first | exact sub_nil | refine sub_cons rfl ?_
    ·refine go_alloc (z := (.agg #[.int .i64 0, .slice none 0 0, .slice none 0 0, .slice none 0 0, .slice none 0 0])) (cs := [.int .i64 0, .slice none 0 0, .slice none 0 0, .slice none 0 0, .slice none 0 0]) rfl rfl rfl (fun w => by kernel_rfl) rfl ?_
     intro B156
     refine hK149 _ _ (fun w M => (mem_take 2 M :)) ?_
     refine gao 10 fun K159 hK159 => ?_
     refine go_callL rfl rfl rfl Tryz.func79 rfl (by decide) rfl (fun w M => specOwn_any w _ _ (mem_rd M h3)) ?_
     intro va158 vc158
     refine hK159 _ _ (fun w M => (mem_take 2 M :)) ?_
     refine gav 12 rfl (qt_build rfl rfl bt_Category) ?_
     refine gao 14 fun K160 hK160 => ?_
     refine go_storeS (n := 5) rfl rfl rfl rfl (by kernel_rfl) rfl rfl rfl ?_
     refine hK160 _ _ (fun w M => (mem_take 2 M :)) ?_
     refine ga_done (by kernel_rfl) ?_
     refine gk_pickL [0, 0, 1, 1, 2, 0, 0] ?_
     refine gk_sub ?hs_161 (HJ7 (_, _, _, _, _, _, _, _))
     case hs_161 => repeat first | exact sub_nil | refine sub_cons rfl ?_
   ·refine go_alloc (z := (.agg #[.int .i64 0, .slice none 0 0, .slice none 0 0, .slice none 0 0, .slice none 0 0])) (cs := [.int .i64 0, .slice none 0 0, .slice none 0 0, .slice none 0 0, .slice none 0 0]) rfl rfl rfl (fun w => by kernel_rfl) rfl ?_
    intro B162
    refine hK146 _ _ (fun w M => (mem_take 2 M :)) ?_
    refine gao 7 fun K165 hK165 => ?_
    refine go_callL rfl rfl rfl Tryz.func79 rfl (by decide) rfl (fun w M => specOwn_any w _ _ (mem_rd M h1)) ?_
    intro va164 vc164
    refine hK165 _ _ (fun w M => (mem_take 2 M :)) ?_
    refine gao 10 fun K167 hK167 => ?_
    refine go_callL rfl rfl rfl Tryz.func79 rfl (by decide) rfl (fun w M => specOwn_any w _ _ (mem_rd M h3)) ?_
    intro va166 vc166
    refine hK167 _ _ (fun w M => (mem_take 2 M :)) ?_
    refine gav 12 rfl (qt_build rfl rfl bt_Category) ?_
    refine gao 14 fun K168 hK168 => ?_
    refine go_storeS (n := 4) rfl rfl rfl rfl (by kernel_rfl) rfl rfl rfl ?_
    refine hK168 _ _ (fun w M => (mem_take 2 M :)) ?_
    refine ga_done (by kernel_rfl) ?_
    refine gk_pickL [0, 0, 1, 2, 2, 0, 0] ?_
    refine gk_sub ?hs_169 (HJ7 (_, _, _, _, _, _, _, _))
    case hs_169 => repeat first | exact sub_nil | refine sub_cons rfl ?_
  ·refine go_alloc (z := (.agg #[.int .i64 0, .slice none 0 0, .slice none 0 0, .slice none 0 0, .slice none 0 0])) (cs := [.int .i64 0, .slice none 0 0, .slice none 0 0, .slice none 0 0, .slice none 0 0]) rfl rfl rfl (fun w => by kernel_rfl) rfl ?_
   intro B170
   refine hK143 _ _ (fun w M => (mem_take 2 M :)) ?_
   refine gao 4 fun K173 hK173 => ?_
   refine go_callL rfl rfl rfl Tryz.func79 rfl (by decide) rfl (fun w M => specOwn_any w _ _ (mem_rd M h2)) ?_
   intro va172 vc172
   refine hK173 _ _ (fun w M => (mem_take 2 M :)) ?_
   refine gao 7 fun K175 hK175 => ?_
   refine go_callL rfl rfl rfl Tryz.func79 rfl (by decide) rfl (fun w M => specOwn_any w _ _ (mem_rd M h1)) ?_
   intro va174 vc174
   refine hK175 _ _ (fun w M => (mem_take 2 M :)) ?_
   refine gao 10 fun K177 hK177 => ?_
   refine go_callL rfl rfl rfl Tryz.func79 rfl (by decide) rfl (fun w M => specOwn_any w _ _ (mem_rd M h3)) ?_
   intro va176 vc176
   refine hK177 _ _ (fun w M => (mem_take 2 M :)) ?_
   refine gav 12 rfl (qt_build rfl rfl bt_Category) ?_
   refine gao 14 fun K178 hK178 => ?_
   refine go_storeS (n := 3) rfl rfl rfl rfl (by kernel_rfl) rfl rfl rfl ?_
   refine hK178 _ _ (fun w M => (mem_take 2 M :)) ?_
   refine ga_done (by kernel_rfl) ?_
   refine gk_pickL [0, 0, 2, 2, 2, 0, 0] ?_
   refine gk_sub ?hs_179 (HJ7 (_, _, _, _, _, _, _, _))
   case hs_179 => repeat first | exact sub_nil | refine sub_cons rfl ?_
 ·refine go_alloc (z := (.agg #[.int .i64 0, .slice none 0 0, .slice none 0 0, .slice none 0 0, .slice none 0 0])) (cs := [.int .i64 0, .slice none 0 0, .slice none 0 0, .slice none 0 0, .slice none 0 0]) rfl rfl rfl (fun w => by kernel_rfl) rfl ?_
  intro B180
  refine hK37 _ _ (fun w M => (mem_take 2 M :)) ?_
  refine ga_two 4 11 (by kernel_rfl) rfl rfl (.free rfl) (.free rfl) (fun K182 hK182 => ?_) (fun K182 hK182 => ?_)
  ·refine go_callL rfl rfl rfl Tryz.func79 rfl (by decide) rfl (fun w M => specOwn_any w _ _ (mem_rd M h2)) ?_
   intro va183 vc183
   refine hK182 _ _ (fun w M => (mem_take 2 M :)) ?_
   refine ga_two 7 11 (by kernel_rfl) rfl rfl (.free rfl) (.free rfl) (fun K185 hK185 => ?_) (fun K185 hK185 => ?_)
   ·refine go_callL rfl rfl rfl Tryz.func79 rfl (by decide) rfl (fun w M => specOwn_any w _ _ (mem_rd M h1)) ?_
    intro va186 vc186
    refine hK185 _ _ (fun w M => (mem_take 2 M :)) ?_
    refine ga_two 10 11 (by kernel_rfl) rfl rfl (.free rfl) (.free rfl) (fun K188 hK188 => ?_) (fun K188 hK188 => ?_)
    ·refine go_callL rfl rfl rfl Tryz.func79 rfl (by decide) rfl (fun w M => specOwn_any w _ _ (mem_rd M h3)) ?_
     intro va189 vc189
     refine hK188 _ _ (fun w M => (mem_take 2 M :)) ?_
     refine gao 11 fun K192 hK192 => ?_
     refine go_sliceR0 rfl rfl rfl Tryz.underlying23 ?_
     intro B191
     refine hK192 _ _ (fun w M => (mem_take 2 M :)) ?_
     refine gav 12 rfl (qt_build rfl rfl bt_Category) ?_
     refine gao 14 fun K193 hK193 => ?_
     refine go_storeS (n := 2) rfl rfl rfl rfl (by kernel_rfl) rfl rfl rfl ?_
     refine hK193 _ _ (fun w M => (mem_take 2 M :)) ?_
     refine ga_done (by kernel_rfl) ?_
     refine gk_pickL [0, 0, 1, 1, 1, 1, 0] ?_
     refine gk_sub ?hs_194 (HJ7 (_, _, _, _, _, _, _, _))
     case hs_194 => repeat first | exact sub_nil | refine sub_cons rfl ?_
    ·refine go_sliceR0 rfl rfl rfl Tryz.underlying23 ?_
     intro B195
     refine hK188 _ _ (fun w M => (mem_take 2 M :)) ?_
     refine gao 10 fun K198 hK198 => ?_
     refine go_callL rfl rfl rfl Tryz.func79 rfl (by decide) rfl (fun w M => specOwn_any w _ _ (mem_rd M h3)) ?_
     intro va197 vc197
     refine hK198 _ _ (fun w M => (mem_take 2 M :)) ?_
     refine gav 12 rfl (qt_build rfl rfl bt_Category) ?_
     refine gao 14 fun K199 hK199 => ?_
     refine go_storeS (n := 2) rfl rfl rfl rfl (by kernel_rfl) rfl rfl rfl ?_
     refine hK199 _ _ (fun w M => (mem_take 2 M :)) ?_
     refine ga_done (by kernel_rfl) ?_
     refine gk_pickL [0, 0, 1, 1, 2, 1, 0] ?_
     refine gk_sub ?hs_200 (HJ7 (_, _, _, _, _, _, _, _))
     case hs_200 => repeat first | exact sub_nil | refine sub_cons rfl ?_
   ·refine go_sliceR0 rfl rfl rfl Tryz.underlying23 ?_
    intro B201
    refine hK185 _ _ (fun w M => (mem_take 2 M :)) ?_
    refine gao 7 fun K204 hK204 => ?_
    refine go_callL rfl rfl rfl Tryz.func79 rfl (by decide) rfl (fun w M => specOwn_any w _ _ (mem_rd M h1)) ?_
    intro va203 vc203
    refine hK204 _ _ (fun w M => (mem_take 2 M :)) ?_
    refine gao 10 fun K206 hK206 => ?_
    refine go_callL rfl rfl rfl Tryz.func79 rfl (by decide) rfl (fun w M => specOwn_any w _ _ (mem_rd M h3)) ?_
    intro va205 vc205
    refine hK206 _ _ (fun w M => (mem_take 2 M :)) ?_
    refine gav 12 rfl (qt_build rfl rfl bt_Category) ?_
    refine gao 14 fun K207 hK207 => ?_
    refine go_storeS (n := 2) rfl rfl rfl rfl (by kernel_rfl) rfl rfl rfl ?_
    refine hK207 _ _ (fun w M => (mem_take 2 M :)) ?_
    refine ga_done (by kernel_rfl) ?_
    refine gk_pickL [0, 0, 1, 2, 2, 1, 0] ?_
    refine gk_sub ?hs_208 (HJ7 (_, _, _, _, _, _, _, _))
    case hs_208 => repeat first | exact sub_nil | refine sub_cons rfl ?_
  ·refine go_sliceR0 rfl rfl rfl Tryz.underlying23 ?_
   intro B209
   refine hK182 _ _ (fun w M => (mem_take 2 M :)) ?_
   refine gao 4 fun K212 hK212 => ?_
   refine go_callL rfl rfl rfl Tryz.func79 rfl (by decide) rfl (fun w M => specOwn_any w _ _ (mem_rd M h2)) ?_
   intro va211 vc211
   refine hK212 _ _ (fun w M => (mem_take 2 M :)) ?_
   refine gao 7 fun K214 hK214 => ?_
   refine go_callL rfl rfl rfl Tryz.func79 rfl (by decide) rfl (fun w M => specOwn_any w _ _ (mem_rd M h1)) ?_
   intro va213 vc213
   refine hK214 _ _ (fun w M => (mem_take 2 M :)) ?_
   refine gao 10 fun K216 hK216 => ?_
   refine go_callL rfl rfl rfl Tryz.func79 rfl (by decide) rfl (fun w M => specOwn_any w _ _ (mem_rd M h3)) ?_
   intro va215 vc215
   refine hK216 _ _ (fun w M => (mem_take 2 M :)) ?_
   refine gav 12 rfl (qt_build rfl rfl bt_Category) ?_
   refine gao 14 fun K217 hK217 => ?_
   refine go_storeS (n := 2) rfl rfl rfl rfl (by kernel_rfl) rfl rfl rfl ?_
   refine hK217 _ _ (fun w M => (mem_take 2 M :)) ?_
   refine ga_done (by kernel_rfl) ?_
   refine gk_pickL [0, 0, 2, 2, 2, 1, 0] ?_
   refine gk_sub ?hs_218 (HJ7 (_, _, _, _, _, _, _, _))
   case hs_218 => repeat first | exact sub_nil | refine sub_cons rfl ?_
end Go.Proofs.YtpcabkdkdnchaaaGreat
set_option linter.unusedSimpArgs false
set_option linter.unusedVariables false
set_option linter.unusedSectionVars false
namespace Go.Proofs.YtpcabkdkdnchaaaGreat
open Go.RowKit
set_option maxHeartbeats 1000000 in
set_option maxRecDepth 100000 in
theorem oppC1_any (w : World) (x : Int) (B : Nat) (v : Value) (c : Cat) (h : RdC w v c) (hS : ShapeP c) (hbB : BxV w B 29 v) (x0 : 0 ≤ x) (x1 : x < c.ob) :
    Calls Tryz.prog 133 #[.int .i64 x, .pointer (some ⟨B, 0, none⟩)] w (RetV w (.int .i64 (at0 c.e x))) := by
  have h0 := h
  obtain ⟨va, vb, vc, vd, ve, vf, vg, vh, rfl, h1, h2, h3, h4, _⟩ := h.lists
  have hel := hS.el
  go_enter Tryz.func133, Tryz.ntmps133
  refine gc_enter (N := 9) rfl (look_cons (k := 0) rfl (look_cons (k := 1) rfl (look_nil _))) ?_
  refine gc_seq fun K1 hK1 => ?_
  refine gc_region ?_
  refine g_v (.free rfl) rfl rfl (qt_assign rfl rfl) ?_
  refine g_nil ?_
  refine gk_then (hK1 _ _ ?_)
  refine gc_seq fun K2 hK2 => ?_
  refine gc_region ?_
  refine g_v (.free rfl) rfl rfl (qt_field (z := 0) (off := 3) rfl rfl Tryz.underlying29 rfl (by kernel_rfl) rfl) ?_
  refine g_v (.free rfl) rfl rfl (qt_loadRB hbB rfl rfl Tryz.underlying22 rfl rfl) ?_
  refine g_v (.free rfl) rfl rfl (qt_move rfl rfl) ?_
  refine g_v (.free rfl) rfl rfl (qt_index rfl rfl rfl ulE1 szE1 (fun w M => lenA_rd h3) (by omega) (by omega)) ?_
  refine g_v (.free rfl) rfl rfl (qt_load1 rfl rfl Tryz.underlying2 rfl (fun w M => mem_rd M h3) (by omega) (by omega)) ?_
  refine g_v (.free rfl) rfl rfl (qt_assign rfl rfl) ?_
  refine g_nil ?_
  refine gk_then (hK2 _ _ ?_)
  refine gc_ret ?_
  refine ret_1 rfl rfl  (fun w M => ?_)
  exact ⟨rfl, M.1⟩
set_option maxHeartbeats 1000000 in
set_option maxRecDepth 100000 in
theorem oppC2_any (w : World) (f g : Int) (B : Nat) (v : Value) (c : Cat) (h : RdC w v c) (hS : ShapeP c) (hbB : BxV w B 29 v) (f0 : 0 ≤ f) (f1 : f < c.s.length) (g0 : 0 ≤ g) (g1 : g < c.s.length) :
    Calls Tryz.prog 134 #[.int .i64 f, .int .i64 g, .pointer (some ⟨B, 0, none⟩)] w (RetV w (.int .i64 (c.th g f))) := by
  have h0 := h
  obtain ⟨va, vb, vc, vd, ve, vf, vg, vh, rfl, h1, h2, h3, h4, _⟩ := h.lists
  have hG := arrP hS g0 g1
  have g3 := hG.fm; have g4 := hG.row
  go_enter Tryz.func134, Tryz.ntmps134
  refine gc_enter (N := 10) rfl (look_cons (k := 0) rfl (look_cons (k := 1) rfl (look_cons (k := 2) rfl (look_nil _)))) ?_
  refine gc_seq fun K1 hK1 => ?_
  refine gc_region ?_
  refine g_v (.free rfl) rfl rfl (qt_assign rfl rfl) ?_
  refine g_nil ?_
  refine gk_then (hK1 _ _ ?_)
  refine gc_seq fun K2 hK2 => ?_
  refine gc_region ?_
  refine g_v (.free rfl) rfl rfl (qt_loadRS hbB rfl rfl Tryz.underlying29 rfl (by kernel_rfl)) ?_
  refine g_v (.free rfl) rfl rfl (qt_move rfl rfl) ?_
  refine g_v (.free rfl) rfl rfl (qt_move rfl rfl) ?_
  refine g_q (.free rfl) rfl rfl (qt_call rfl Tryz.func119 rfl (by decide) rfl (fun w M => then_any w _ _ _ _ (mem_rdC M h0) (by first | assumption | omega) (by first | assumption | omega) (by first | assumption | omega) (by first | assumption | omega))) ?_
  refine g_v (.free rfl) rfl rfl (qt_assign rfl rfl) ?_
  refine g_nil ?_
  refine gk_then (hK2 _ _ ?_)
  refine gc_ret ?_
  refine ret_1 rfl rfl  (fun w M => ?_)
  exact ⟨rfl, M.1⟩
theorem opp_made {c : Cat} (hC : IsCat c) : madeE c.ob (entsTo (entO c) c.s.length) (fun x => at0 c.e (x : Int)) (fun f g => c.th g f) = oppM c ∧ madeEc c.ob (entsTo (entO c) c.s.length) = 0 := by
  have hS := hC.toShapeP
  have htl := hS.tl; have hel := hS.el; have hob0 := hS.ob0; have hml := hS.ml
  have h := madeE_t (n := c.ob) (es := entsTo (entO c) c.s.length) (u := fun x => at0 c.e (x : Int)) (th := fun f g => c.th g f) hS.ob8 (by rw [entsTo_len]; exact hS.n40)
  refine ⟨h.1.trans ?_, h.2⟩
  have hinj : ∀ i j, i < c.s.length → j < c.s.length → entO c i = entO c j → i = j := fun i j _ _ h => entO_inj c i j h
  refine buildE_to rfl htl rfl (by show c.e.length = _; omega) (rowsTo_len _ _) (fun i hi => ?_) (fun i hi => rfl) (fun i hi => rfl) (fun x hx => ?_) (fun i j hi hj => ?_)
  · show (row2 (rowsTo _ _) (i : Int)).length = _
    rw [rowsTo_at _ hi, tabTo_len]
  · have hid := hS.idn (x := (x : Int)) (by omega) (by omega)
    refine (posE_int hinj hid.1 hid.2.1 ?_).symm
    show (at0 c.t _, at0 c.s _, _) = _
    rw [Int.toNat_of_nonneg hid.1, hid.2.2.1, hid.2.2.2]
  · show at0 (row2 (rowsTo _ _) (i : Int)) (j : Int) = _
    rw [rowsTo_at _ hi, tabTo_at _ hj]
    unfold cellE
    by_cases he : at0 c.t (j : Int) = at0 c.s (i : Int)
    · have hT := th_ends hS (f := (j : Int)) (g := (i : Int)) (by omega) (by omega) (by omega) (by omega) he
      rw [if_pos (show (entO c i).2.1 = (entO c j).1 from he.symm)]
      refine (posE_int hinj hT.1.1 hT.1.2 ?_).symm
      show (at0 c.t _, at0 c.s _, _) = _
      rw [Int.toNat_of_nonneg hT.1.1, hT.2.1, hT.2.2]
      rfl
    · rw [if_neg (show ¬ (entO c i).2.1 = (entO c j).1 from fun h => he h.symm)]
      exact (th_none hS (f := (j : Int)) (g := (i : Int)) (by omega) (by omega) (by omega) (by omega)).2 he
set_option maxHeartbeats 1000000 in
set_option maxRecDepth 100000 in
theorem impl_OppositeCategory (w : World) (v : Value) (c : Cat) (h : RdC w v c) :
    Calls Tryz.prog 106 #[v] w (RetCI w (fOppositeCategory c).1 (fOppositeCategory c).2) := by
  have h0 := h
  obtain ⟨va, vb, vc, vd, ve, vf, vg, vh, rfl, h1, h2, h3, h4, _⟩ := h.lists
  go_enter Tryz.func106, Tryz.ntmps106
  refine gc_enter (N := 45) rfl (look_cons (k := 0) rfl (look_nil _)) ?_
  refine gc_seq fun K1 hK1 => ?_
  refine gc_region ?_
  refine g_op (.free rfl) fun K3 hK3 => ?_
  refine go_box rfl rfl rfl rfl rfl ?_
  intro B2
  refine hK3 _ _ ?_
  refine g_op (.free rfl) fun K5 hK5 => ?_
  refine go_alloc (z := (.agg #[.int .i64 0, .slice none 0 0, .slice none 0 0, .slice none 0 0, .slice none 0 0])) (cs := [.int .i64 0, .slice none 0 0, .slice none 0 0, .slice none 0 0, .slice none 0 0]) rfl rfl rfl (fun w => by kernel_rfl) rfl ?_
  intro B4
  refine hK5 _ _ ?_
  refine g_v (.free rfl) rfl rfl (qt_assign rfl rfl) ?_
  refine g_nil ?_
  refine gk_then (hK1 _ _ ?_)
  refine gc_seq fun K6 hK6 => ?_
  refine gc_region ?_
  refine g_v (.free rfl) rfl rfl (qt_loadS (n := 0) rfl rfl Tryz.underlying29 rfl (by kernel_rfl) rfl) ?_
  refine g_op (.free rfl) fun K8 hK8 => ?_
  refine go_callCI rfl rfl rfl Tryz.func123 rfl (by decide) rfl (fun w M => readCat_any w _ _ (mem_rdC M h0)) ?_
  intro ca7 cb7 cc7 cd7 ce7 cf7 cg7 ch7 cu7
  refine hK8 _ _ ?_
  refine g_v (.free rfl) rfl rfl (qt_move rfl rfl) ?_
  refine g_v (.free rfl) rfl rfl (qt_extract rfl rfl rfl) ?_
  refine g_v (.free rfl) rfl rfl (qt_extract rfl rfl rfl) ?_
  refine g_op (.free rfl) fun K10 hK10 => ?_
  refine go_alloc (z := (.agg #[.int .i64 0, .slice none 0 0, .slice none 0 0, .slice none 0 0, .slice none 0 0])) (cs := [.int .i64 0, .slice none 0 0, .slice none 0 0, .slice none 0 0, .slice none 0 0]) rfl rfl rfl (fun w => by kernel_rfl) rfl ?_
  intro B9
  refine hK10 _ _ ?_
  refine g_op (.free rfl) fun K11 hK11 => ?_
  refine go_storeS (n := 6) rfl rfl rfl rfl (by kernel_rfl) rfl rfl rfl ?_
  refine hK11 _ _ ?_
  refine g_v (.free rfl) rfl rfl (qt_assign rfl rfl) ?_
  refine g_nil ?_
  refine gk_then (hK6 _ _ ?_)
  refine gc_seq fun K12 hK12 => ?_
  refine gc_seq fun K13 hK13 => ?_
  refine gc_region ?_
  refine g_v (.free rfl) rfl rfl (qt_move rfl rfl) ?_
  refine g_v (.free rfl) rfl rfl (qt_neq rfl rfl rfl) ?_
  refine g_nil ?_
  refine gk_then (hK13 _ _ ?_)
  refine gc_cond rfl (fun hc0 => ?_) (fun hc0 => ?_)
  · try simp only [decide_eq_true_eq, decide_eq_false_iff_not, Bool.not_eq_true', Bool.not_eq_false', Bool.not_eq_eq_eq_not, Bool.not_true, Bool.not_false, ne_eq, Decidable.not_not, Classical.not_not] at hc0
    refine gc_seq fun K14 hK14 => ?_
    refine gc_region ?_
    refine g_v (.free rfl) rfl rfl (qt_build rfl rfl bt0_Category) ?_
    refine g_v (.free rfl) rfl rfl (qt_move rfl rfl) ?_
    refine g_op (.free rfl) fun K15 hK15 => ?_
    refine go_storeS (n := 1) rfl rfl rfl rfl (by kernel_rfl) rfl rfl rfl ?_
    refine hK15 _ _ ?_
    refine g_v (.free rfl) rfl rfl (qt_assign rfl rfl) ?_
    refine g_nil ?_
    refine gk_then (hK14 _ _ ?_)
    refine gc_ret ?_
    refine gk_then_ret ?_
    refine ret_SI (n := 1) rfl rfl rfl Tryz.underlying29 rfl (by kernel_rfl) rfl (fun w M => ?_)
    rw [(catErr_n hc0).2, opp_f (catErr_n hc0).1]; exact ⟨_, rfl, ownC_zero _ _, M.1⟩
  · try simp only [decide_eq_true_eq, decide_eq_false_iff_not, Bool.not_eq_true', Bool.not_eq_false', Bool.not_eq_eq_eq_not, Bool.not_true, Bool.not_false, ne_eq, Decidable.not_not, Classical.not_not] at hc0
    refine gc_skip ?_
    refine gk_then (hK12 _ _ ?_)
    refine gc_seq fun K16 hK16 => ?_
    have hI := catErr_0 hc0
    simp only [catCat_t hc0]
    have hS := (isCat_of hI).toShapeP
    have hn40 := hS.n40; have htl := hS.tl; have hel := hS.el; have hob0 := hS.ob0; have hob8 := hS.ob8; have hml := hS.ml
    refine gc_region ?_
    refine g_v (.free rfl) rfl rfl (qt_field (z := 0) (off := 0) rfl rfl Tryz.underlying29 rfl (by kernel_rfl) rfl) ?_
    refine g_v (.free rfl) rfl rfl (qt_loadB (n := 6) rfl rfl Tryz.underlying2 rfl rfl rfl) ?_
    refine g_v (.free rfl) rfl rfl (qt_makeF rfl rfl) ?_
    refine g_v (.free rfl) rfl rfl (qt_makeF rfl rfl) ?_
    refine g_v (.free rfl) rfl rfl (qt_build rfl rfl bt023_plan_int64) ?_
    refine g_op (.free rfl) fun K18 hK18 => ?_
    refine go_alloc (z := (.agg #[.int .i64 0, .slice none 0 0, .nilFunc, .nilFunc])) (cs := [.int .i64 0, .slice none 0 0, .nilFunc, .nilFunc]) rfl rfl rfl (fun w => by kernel_rfl) rfl ?_
    intro B17
    refine hK18 _ _ ?_
    refine g_op (.free rfl) fun K19 hK19 => ?_
    refine go_storeS (n := 7) rfl rfl rfl rfl (by kernel_rfl) rfl rfl rfl ?_
    refine hK19 _ _ ?_
    refine g_nil ?_
    refine gk_then (hK16 _ _ ?_)
    refine gc_seq fun K20 hK20 => ?_
    refine gc_seq fun K21 hK21 => ?_
    refine gc_region ?_
    refine g_v (.free rfl) rfl rfl (qt_loadS (n := 6) rfl rfl Tryz.underlying29 rfl (by kernel_rfl) rfl) ?_
    refine g_q (.free rfl) rfl rfl (qt_call rfl Tryz.func100 rfl (by decide) rfl (fun w M => arrows_any w _ _ (rdC_mk ((mem_own1 (n := 2) M rfl).rd) ((mem_own1 (n := 3) M rfl).rd) ((mem_own1 (n := 4) M rfl).rd) (mem_rdU (n := 5) M rfl)))) ?_
    refine g_v (.free rfl) rfl rfl (qt_move rfl rfl) ?_
    refine g_nil ?_
    refine gk_then (hK21 _ _ ?_)
    refine gc_block ?_
    refine gc_nilE lab_int ?_
    try simp only [List.nil_append, List.cons_append, List.append_assoc, List.set_cons_succ, List.set_cons_zero]
    refine gc_loop ([(0, _), (1, _), (2, _), (3, _), (4, _), (5, _), (6, _), (14, _), (23, _)] : Env) (fun s : Nat × (Option Addr) × Nat => (fun (k : Nat) (a : Option Addr) (q : Nat) => ([(24, .int .i64 (k : Int))] : Env)) s.1 s.2.1 s.2.2) (fun s : Nat × (Option Addr) × Nat => (fun (k : Nat) (a : Option Addr) (q : Nat) => ([(7, bxI B17 159 [.int .i64 c.ob, .slice a (entsTo (entO c) k).length q, .func (.func 133) #[] #[.pointer (some ⟨B9, 0, none⟩)], .func (.func 134) #[] #[.pointer (some ⟨B9, 0, none⟩)]]), (8, ownEI lab_int (.slice a (entsTo (entO c) k).length q) (entsTo (entO c) k))] : List (Nat × Itm))) s.1 s.2.1 s.2.2) (fun s : Nat × (Option Addr) × Nat => (fun (k : Nat) (a : Option Addr) (q : Nat) => k ≤ c.s.length) s.1 s.2.1 s.2.2) (fun s : Nat × (Option Addr) × Nat => (fun (k : Nat) (a : Option Addr) (q : Nat) => c.s.length - k) s.1 s.2.1 s.2.2) (0, _, _) (sub_cons rfl (sub_cons rfl (sub_cons rfl (sub_cons rfl (sub_cons rfl (sub_cons rfl (sub_cons rfl (sub_cons rfl (sub_cons rfl (sub_cons rfl sub_nil)))))))))) rfl (Nat.zero_le _) ?_
    rintro ⟨k, a, q⟩ hinv KL22 hKL22
    simp only [updL, List.foldl_cons, List.foldl_nil, List.set_cons_succ, List.set_cons_zero, List.cons_append, List.nil_append] at hinv hKL22 ⊢
    have hk := hinv
    have hl := entsTo_len (entO c) k
    refine gc_seq fun K23 hK23 => ?_
    refine gc_region ?_
    refine g_v (.free rfl) rfl rfl (qt_lss rfl rfl rfl) ?_
    refine g_nil ?_
    refine gk_then (hK23 _ _ ?_)
    refine gc_seq fun K24 hK24 => ?_
    refine gc_cond rfl (fun hc1 => ?_) (fun hc1 => ?_)
    · try simp only [decide_eq_true_eq, decide_eq_false_iff_not, Bool.not_eq_true', Bool.not_eq_false', Bool.not_eq_eq_eq_not, Bool.not_true, Bool.not_false, ne_eq, Decidable.not_not, Classical.not_not] at hc1
      refine gc_skip ?_
      refine gk_then (hK24 _ _ ?_)
      refine gc_seq fun K25 hK25 => ?_
      refine gc_block ?_
      refine gc_seq fun K26 hK26 => ?_
      refine gc_region ?_
      refine g_v (.free rfl) rfl rfl (qt_move rfl rfl) ?_
      refine g_v (.free rfl) rfl rfl (qt_assign rfl rfl) ?_
      refine g_nil ?_
      refine gk_then (hK26 _ _ ?_)
      try simp only [List.nil_append, List.cons_append, List.append_assoc, List.set_cons_succ, List.set_cons_zero]
      refine ga_start _ (fun w M => mem_erase 7 (mem_erase 8 (M))) ?_
      refine ga_v 0 rfl (by kernel_rfl) (by kernel_rfl) (by kernel_rfl) (.free rfl) rfl rfl (qt_field (z := 0) (off := 2) rfl rfl Tryz.underlying29 rfl (by kernel_rfl) rfl) (fun _ _ _ h => h) ?_
      refine ga_v 1 rfl (by kernel_rfl) (by kernel_rfl) (by kernel_rfl) (.free rfl) rfl rfl (qt_loadB (n := 6) rfl rfl Tryz.underlying22 rfl rfl rfl) (fun _ _ _ h => h) ?_
      refine ga_v 2 rfl (by kernel_rfl) (by kernel_rfl) (by kernel_rfl) (.free rfl) rfl rfl (qt_move rfl rfl) (fun _ _ _ h => h) ?_
      refine ga_v 3 rfl (by kernel_rfl) (by kernel_rfl) (by kernel_rfl) (.free rfl) rfl rfl (qt_index rfl rfl rfl ulE1 szE1 (fun w M => lenA_own1 (n := 3) rfl M) (by omega) (by omega)) (fun _ _ _ h => h) ?_
      refine ga_v 4 rfl (by kernel_rfl) (by kernel_rfl) (by kernel_rfl) (.free rfl) rfl rfl (qt_load1 rfl rfl Tryz.underlying2 rfl (fun w M => (mem_own1 (n := 3) M rfl).rd) (by omega) (by omega)) (fun _ _ _ h => h) ?_
      refine ga_v 5 rfl (by kernel_rfl) (by kernel_rfl) (by kernel_rfl) (.free rfl) rfl rfl (qt_field (z := 0) (off := 1) rfl rfl Tryz.underlying29 rfl (by kernel_rfl) rfl) (fun _ _ _ h => h) ?_
      refine ga_v 6 rfl (by kernel_rfl) (by kernel_rfl) (by kernel_rfl) (.free rfl) rfl rfl (qt_loadB (n := 6) rfl rfl Tryz.underlying22 rfl rfl rfl) (fun _ _ _ h => h) ?_
      refine ga_v 7 rfl (by kernel_rfl) (by kernel_rfl) (by kernel_rfl) (.free rfl) rfl rfl (qt_move rfl rfl) (fun _ _ _ h => h) ?_
      refine ga_v 8 rfl (by kernel_rfl) (by kernel_rfl) (by kernel_rfl) (.free rfl) rfl rfl (qt_index rfl rfl rfl ulE1 szE1 (fun w M => lenA_own1 (n := 2) rfl M) (by omega) (by omega)) (fun _ _ _ h => h) ?_
      refine ga_v 9 rfl (by kernel_rfl) (by kernel_rfl) (by kernel_rfl) (.free rfl) rfl rfl (qt_load1 rfl rfl Tryz.underlying2 rfl (fun w M => (mem_own1 (n := 2) M rfl).rd) (by omega) (by omega)) (fun _ _ _ h => h) ?_
      refine ga_v 10 rfl (by kernel_rfl) (by kernel_rfl) (by kernel_rfl) (.free rfl) rfl rfl (qt_build rfl rfl bt_arrowEnds) (fun _ _ _ h => h) ?_
      refine ga_v 11 rfl (by kernel_rfl) (by kernel_rfl) (by kernel_rfl) (.free rfl) rfl rfl (qt_move rfl rfl) (fun _ _ _ h => h) ?_
      refine ga_op 12 (by kernel_rfl) rfl (.free rfl) fun K28 hK28 => ?_
      refine go_two (n := 7) (m := 8) (m' := 7) (σ := Option Addr × Nat) rfl rfl rfl Tryz.func135 rfl (by decide) rfl rfl rfl (fun z => rfl) (fun R w M => add_int _ w R _ _ _ _ _ _ _ _ _ _ (by omega) M) ?_
      intro ⟨sa27, sq27⟩
      refine hK28 _ _ (fun w M => (mem_erase 7 (mem_erase 8 (mem_take 9 M)) :)) ?_
      refine ga_done (by kernel_rfl) ?_
      refine gk_block ?_
      refine gk_then (hK25 _ _ ?_)
      refine gc_region ?_
      refine g_v (.free rfl) rfl rfl (qt_add rfl rfl rfl (by omega)) ?_
      refine g_v (.free rfl) rfl rfl (qt_move rfl rfl) ?_
      refine g_nil ?_
      simp only [entO_def, entsTo_succ]
      refine gk_then (gk_take 9 ?_)
      refine gk_sub ?hs_29 (hKL22 (k + 1, _, _) ?hi_29 ?hm_29)
      case hs_29 => exact (sub_cons rfl (sub_cons rfl (sub_cons rfl (sub_cons rfl (sub_cons rfl (sub_cons rfl (sub_cons rfl (sub_cons rfl (sub_cons rfl (sub_cons rfl sub_nil))))))))))
      case hi_29 => omega
      case hm_29 => omega
    · try simp only [decide_eq_true_eq, decide_eq_false_iff_not, Bool.not_eq_true', Bool.not_eq_false', Bool.not_eq_eq_eq_not, Bool.not_true, Bool.not_false, ne_eq, Decidable.not_not, Classical.not_not] at hc1
      refine gc_exit ?_
      refine gk_then_exit ?_
      refine gk_then_exit ?_
      refine gk_block_hit ?_
      refine gk_then (hK20 _ _ ?_)
      refine gc_seq fun K30 hK30 => ?_
      obtain rfl : k = c.s.length := by omega
      refine gc_region ?_
      refine g_v (.free rfl) rfl rfl (qt_loadS (n := 7) rfl rfl Tryz.underlying159 rfl (by kernel_rfl) rfl) ?_
      refine g_op (.free rfl) fun K32 hK32 => ?_
      refine go_callCI rfl rfl rfl Tryz.func136 rfl (by decide) rfl (fun w M => build_int w _ _ (entsTo (entO c) c.s.length) (mem_ownE (n := 8) M rfl) (entsTo_nodup fun i j _ _ h => entO_inj c i j h) (by omega) _ _ (fun x => at0 c.e (x : Int)) (⟨_, Tryz.func133, rfl, by decide⟩) (fun w' hb x hx => oppC1_any w' (x : Int) _ _ c (rdC_below hb (rdC_mk ((mem_own1 (n := 2) M rfl).rd) ((mem_own1 (n := 3) M rfl).rd) ((mem_own1 (n := 4) M rfl).rd) (mem_rdU (n := 5) M rfl))) hS (bxV_below hb (bxV_of (n := 6) M rfl)) (by omega) hx) _ _ (fun f g => c.th g f) (⟨_, Tryz.func134, rfl, by decide⟩) (fun w' hb f hf g hg _ => by obtain ⟨i, hi, rfl⟩ := entsTo_mem.1 hf; obtain ⟨j, hj, rfl⟩ := entsTo_mem.1 hg; exact oppC2_any w' (i : Int) (j : Int) _ _ c (rdC_below hb (rdC_mk ((mem_own1 (n := 2) M rfl).rd) ((mem_own1 (n := 3) M rfl).rd) ((mem_own1 (n := 4) M rfl).rd) (mem_rdU (n := 5) M rfl))) hS (bxV_below hb (bxV_of (n := 6) M rfl)) (by omega) (by omega) (by omega) (by omega))) ?_
      intro ca31 cb31 cc31 cd31 ce31 cf31 cg31 ch31 cu31
      refine hK32 _ _ ?_
      refine g_v (.free rfl) rfl rfl (qt_extract rfl rfl rfl) ?_
      refine g_v (.free rfl) rfl rfl (qt_extract rfl rfl rfl) ?_
      refine g_op (.free rfl) fun K33 hK33 => ?_
      refine go_storeS (n := 1) rfl rfl rfl rfl (by kernel_rfl) rfl rfl rfl ?_
      refine hK33 _ _ ?_
      refine g_v (.free rfl) rfl rfl (qt_assign rfl rfl) ?_
      refine g_nil ?_
      refine gk_then (hK30 _ _ ?_)
      refine gc_ret ?_
      refine ret_SI (n := 1) rfl rfl rfl Tryz.underlying29 rfl (by kernel_rfl) rfl (fun w M => ?_)
      have hm := opp_made (isCat_of hI)
      rw [opp_t hI]
      exact retCI_eq hm.1 hm.2 ⟨_, rfl, ownC_star (mem_pick (n := 12) (mem_pick (n := 12) (mem_pick (n := 12) (mem_pick (n := 12) (M) rfl) rfl) rfl) rfl).2, M.1⟩
end Go.Proofs.YtpcabkdkdnchaaaGreat
