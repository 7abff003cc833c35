import Derived.Test.YtbiplocgenppoaaC4
import Derived.Test.YtbiplocgenppoaaC11
import Derived.Test.YtbiplocgenppoaaC9
set_option maxHeartbeats 1000000
set_option maxRecDepth 100000
set_option linter.unusedSimpArgs false
set_option linter.unusedVariables false
set_option linter.unusedSectionVars false
namespace Go.Proofs.Ytbiplocgenppoaa
open _root_.Go.Proofs.Try
open Go.RowKit
theorem th_def (c : Cat) (f g : Int) : at0 (row2 c.m f) g = c.th f g := rfl
def oppM (c : Cat) : Cat := ⟨c.ob, c.t, c.s, c.e, rowsTo (fun f => tabTo (fun g => c.th g f) c.s.length) c.s.length⟩
noncomputable def fOppositeCategory (c : Cat) : Cat × Int := if fIsCategory c = true then (oppM c, 0) else (cat0, 1)
theorem opp_f {c : Cat} (h : fIsCategory c = false) : fOppositeCategory c = (cat0, 1) := if_neg (by rw [h]; decide)
theorem opp_t {c : Cat} (h : fIsCategory c = true) : fOppositeCategory c = (oppM c, 0) := if_pos h
def entO (c : Cat) (f : Nat) : Ent Int := (at0 c.t f, at0 c.s f, (f : Int))
theorem entO_def (c : Cat) (k : Nat) : (at0 c.t (k : Int), at0 c.s (k : Int), (k : Int)) = entO c k := rfl
theorem entO_inj (c : Cat) (i j : Nat) (h : entO c i = entO c j) : i = j := by simp only [entO, Prod.mk.injEq] at h; omega
theorem specOp_any (w : World) (v : Value) (c : Cat) (h : RdC w v c) (hS : ShapeP c) :
  Calls Try.prog 101 #[v] w (RetC w (oppM c)) := by
 have h0 := h
 obtain ⟨va, vb, vc, vd, ve, vf, vg, vh, rfl, h1, h2, h3, h4, _⟩ := h.lists
 have hn40 := hS.n40; have htl := hS.tl; have hel := hS.el; have hob0 := hS.ob0; have hob8 := hS.ob8; have hml := hS.ml
 go_enter func101, Try.ntmps101
 refine gc_enter (N := 53) rfl (look_cons (k := 0) rfl (look_nil _)) ?_
 refine gc_sr fun K1 hK1 => ?_
 refine gop fun K3 hK3 => ?_
 refine go_box rfl rfl rfl rfl rfl ?_
 intro B2
 refine hK3 _ _ ?_
 refine gop fun K5 hK5 => ?_
 refine go_alloc (z := (.agg #[.int .i64 0, .slice none 0 0, .slice none 0 0, .slice none 0 0, .slice none 0 0])) (cs := [.int .i64 0, .slice none 0 0, .slice none 0 0, .slice none 0 0, .slice none 0 0]) rfl rfl rfl (fun w => by kernel_rfl) rfl ?_
 intro B4
 refine hK5 _ _ ?_
 refine gnt (hK1 _ _ ?_)
 refine gc_seq fun K6 hK6 => ?_
 try simp only [sL]
 refine gc_cut ([(0, _), (1, _), (2, _)] : Env) (fun s : Nat × (Option Addr) × Nat × (Option Addr) × Nat × (Option Addr) × Nat × Nat => (fun (B : Nat) (a1 : Option Addr) (q1 : Nat) (a2 : Option Addr) (q2 : Nat) (a3 : Option Addr) (q3 : Nat) (B4 : Nat) => ([(3, .pointer (some ⟨B, 0, none⟩))] : Env)) s.1 s.2.1 s.2.2.1 s.2.2.2.1 s.2.2.2.2.1 s.2.2.2.2.2.1 s.2.2.2.2.2.2.1 s.2.2.2.2.2.2.2) (fun s : Nat × (Option Addr) × Nat × (Option Addr) × Nat × (Option Addr) × Nat × Nat => (fun (B : Nat) (a1 : Option Addr) (q1 : Nat) (a2 : Option Addr) (q2 : Nat) (a3 : Option Addr) (q3 : Nat) (B4 : Nat) => ([] : List (Nat × Itm))) s.1 s.2.1 s.2.2.1 s.2.2.2.1 s.2.2.2.2.1 s.2.2.2.2.2.1 s.2.2.2.2.2.2.1 s.2.2.2.2.2.2.2) (fun s : Nat × (Option Addr) × Nat × (Option Addr) × Nat × (Option Addr) × Nat × Nat => (fun (B : Nat) (a1 : Option Addr) (q1 : Nat) (a2 : Option Addr) (q2 : Nat) (a3 : Option Addr) (q3 : Nat) (B4 : Nat) => ([own1I (.slice a1 c.t.length q1) c.t, own1I (.slice a2 c.s.length q2) c.s, own1I (.slice a3 c.e.length q3) c.e, own2U (.slice (some ⟨B4, 0, none⟩) 0 0) [] [], bxI B 27 [.int .i64 c.ob, .slice a1 c.t.length q1, .slice a2 c.s.length q2, .slice a3 c.e.length q3, .slice (some ⟨B4, 0, none⟩) 0 0]] : List Itm)) s.1 s.2.1 s.2.2.1 s.2.2.2.1 s.2.2.2.2.1 s.2.2.2.2.2.1 s.2.2.2.2.2.2.1 s.2.2.2.2.2.2.2) (by repeat first | exact sub_nil | refine sub_cons rfl ?_) ?_ (fun HJ7 => ?_)
 ·rintro ⟨B, a1, q1, a2, q2, a3, q3, B4⟩
  simp only [sU, sL]
  refine gk_then (hK6 _ _ ?_)
  refine gc_seq fun K8 hK8 => ?_
  refine gc_sr fun K9 hK9 => ?_
  refine gas ?_
  refine gnt (hK9 _ _ ?_)
  refine gc_block ?_
  try simp only [sL]
  refine gc_loopT ([(0, _), (1, _), (2, _), (3, _)] : Env) (fun s : Nat × (Option Addr) × Nat × (List Value) => (fun (k : Nat) (a : Option Addr) (q : Nat) (us : List Value) => (([(4, .int .i64 (k : Int))] : Env), ([(5, own2U (.slice a (rowsTo (fun f => tabTo (fun g => c.th g f) c.s.length) k).length q) us (rowsTo (fun f => tabTo (fun g => c.th g f) c.s.length) k)), (6, bxI B 27 [.int .i64 c.ob, .slice a1 c.t.length q1, .slice a2 c.s.length q2, .slice a3 c.e.length q3, .slice a (rowsTo (fun f => tabTo (fun g => c.th g f) c.s.length) k).length q])] : List (Nat × Itm)), k ≤ c.s.length, c.s.length - k)) s.1 s.2.1 s.2.2.1 s.2.2.2) ((0, _, _, _)) (by repeat first | exact sub_nil | refine sub_cons rfl ?_) rfl (Nat.zero_le _) ?_
  rintro ⟨k, a, q, us⟩ hinv KL10 hKL10
  simp only [sU, sL] at hinv hKL10 ⊢
  have hk := hinv
  have hl := rowsTo_len (fun f => tabTo (fun g => c.th g f) c.s.length) k
  refine gc_seq fun K11 hK11 => ?_
  refine gc_sr fun K12 hK12 => ?_
  refine gm ?_
  refine gv (qtf underlying27 (z := 0) (off := 1)) ?_
  refine gv (qtl underlying24 (n := 0)) ?_
  refine gv (qln (fun w M => lenV_rd h1)) ?_
  refine gv (qt_lss rfl rfl rfl) ?_
  refine gnt (hK12 _ _ ?_)
  refine gc_cond rfl (fun hc0 => ?_) (fun hc0 => ?_)
  ·try simp only [sA] at hc0
   refine gc_skip ?_
   refine gk_then (hK11 _ _ ?_)
   refine gc_seq fun K13 hK13 => ?_
   refine gc_block ?_
   refine gc_sr fun K14 hK14 => ?_
   refine gop fun K16 hK16 => ?_
   refine go_slice0 rfl rfl rfl underlying24 ?_
   intro B15
   refine hK16 _ _ ?_
   refine gas ?_
   refine gnt (hK14 _ _ ?_)
   refine gc_seq fun K17 hK17 => ?_
   refine gc_sr fun K18 hK18 => ?_
   refine gas ?_
   refine gnt (hK18 _ _ ?_)
   refine gc_block ?_
   try simp only [sL]
   refine gc_loopT ([(0, _), (1, _), (2, _), (3, _), (4, _), (24, _)] : Env) (fun s : Nat × (Option Addr) × Nat => (fun (l : Nat) (b : Option Addr) (r : Nat) => (([(5, .slice b (tabTo (fun g => c.th g k) l).length r), (6, .int .i64 (l : Int))] : Env), ([(7, own1I (.slice b (tabTo (fun g => c.th g k) l).length r) (tabTo (fun g => c.th g k) l))] : List (Nat × Itm)), l ≤ c.s.length, c.s.length - l)) s.1 s.2.1 s.2.2) (0, _, _) (by repeat first | exact sub_nil | refine sub_cons rfl ?_) rfl (Nat.zero_le _) ?_
   rintro ⟨l, b, r⟩ hinv KL19 hKL19
   simp only [sU, sL] at hinv hKL19 ⊢
   have hl1 := hinv
   have hl2 := tabTo_len (fun g => c.th g k) l
   refine gc_seq fun K20 hK20 => ?_
   refine gc_sr fun K21 hK21 => ?_
   refine gm ?_
   refine gv (qtf underlying27 (z := 0) (off := 1)) ?_
   refine gv (qtl underlying24 (n := 0)) ?_
   refine gv (qln (fun w M => lenV_rd h1)) ?_
   refine gv (qt_lss rfl rfl rfl) ?_
   refine gnt (hK21 _ _ ?_)
   refine gc_cond rfl (fun hc1 => ?_) (fun hc1 => ?_)
   ·try simp only [sA] at hc1
    refine gc_skip ?_
    refine gk_then (hK20 _ _ ?_)
    refine gc_seq fun K22 hK22 => ?_
    refine gc_block ?_
    have hA := arrP hS (f := (l : Int)) (by omega) (by omega)
    have a3 := hA.fm; have a4 := hA.row
    refine gc_region ?_
    refine gm ?_
    refine gv (qtf underlying27 (z := 0) (off := 4)) ?_
    refine gv (qtl underlying25 (n := 0)) ?_
    refine gm ?_
    refine gv (qti2 (fun w M => lenA_rd2 h4)) ?_
    refine g_load2 (.free rfl) rfl rfl rfl rfl underlying24 rfl h4 (by omega) (by omega) ?_
    intro ra23 rc23 hr23
    refine gm ?_
    refine gv (qti (fun w M => lenA_rd hr23)) ?_
    refine gv (qtd (fun w M => mem_rd M hr23)) ?_
    refine gop fun K25 hK25 => ?_
    refine go_slice1 rfl rfl rfl rfl underlying24 ?_
    intro B24
    refine hK25 _ _ ?_
    refine gop fun K27 hK27 => ?_
    refine go_append (n := 7) (m := 8) rfl rfl rfl underlying24 rfl rfl rfl rfl (by omega) ?_
    intro va26 vc26
    refine hK27 _ _ ?_
    refine gas ?_
    refine g_nil ?_
    refine gk_block ?_
    refine gk_then (hK22 _ _ ?_)
    refine gc_region ?_
    refine gm ?_
    refine gv (qt_add rfl rfl rfl (by omega)) ?_
    refine gas ?_
    refine g_nil ?_
    simp only [th_def, tabTo_succ]
    refine gk_then (gk_take 8 ?_)
    refine gk_sub ?hs_28 (hKL19 (l + 1, _, _) ?hi_28 ?hm_28)
    case hs_28 => repeat first | exact sub_nil | refine sub_cons rfl ?_
    case hi_28 => omega
    case hm_28 => omega
   try simp only [sA] at hc1
   refine gc_exit ?_
   refine gk_then_exit ?_
   refine gk_then_exit ?_
   refine gk_block_hit ?_
   refine gk_then (hK17 _ _ ?_)
   refine gc_region ?_
   refine gv (qtf underlying27 (z := 0) (off := 4)) ?_
   refine gv (qtl underlying25 (n := 6)) ?_
   refine gm ?_
   refine gop fun K30 hK30 => ?_
   refine go_sliceR1 (m := 7) rfl rfl rfl rfl underlying25 rfl ?_
   intro B29
   refine hK30 _ _ ?_
   refine gop fun K32 hK32 => ?_
   refine go_appendRow (n := 5) (m := 7) (m' := 6) rfl rfl rfl underlying25 rfl rfl rfl rfl rfl (by omega) ?_
   intro va31 vc31
   refine hK32 _ _ ?_
   refine gv (qtf underlying27 (z := 0) (off := 4)) ?_
   refine gop fun K33 hK33 => ?_
   refine go_storeB (n := 6) rfl rfl rfl rfl (by kernel_rfl) rfl rfl rfl (by first | decide | simp) ?_
   refine hK33 _ _ ?_
   refine g_nil ?_
   refine gk_block ?_
   refine gk_then (hK13 _ _ ?_)
   refine gc_region ?_
   refine gm ?_
   refine gv (qt_add rfl rfl rfl (by omega)) ?_
   refine gas ?_
   refine g_nil ?_
   obtain rfl : l = c.s.length := by omega
   simp only [rowsTo_succ]
   refine gk_then (gk_take 7 ?_)
   refine gk_sub ?hs_34 (hKL10 (k + 1, _, _, _) ?hi_34 ?hm_34)
   case hs_34 => repeat first | exact sub_nil | refine sub_cons rfl ?_
   case hi_34 => omega
   case hm_34 => omega
  try simp only [sA] at hc0
  refine gc_exit ?_
  refine gk_then_exit ?_
  refine gk_then_exit ?_
  refine gk_block_hit ?_
  refine gk_then (hK8 _ _ ?_)
  refine gc_sr fun K35 hK35 => ?_
  refine gv (qts underlying27 (n := 6)) ?_
  refine gop fun K36 hK36 => ?_
  refine go_storeS (n := 1) rfl rfl rfl rfl (by kernel_rfl) rfl rfl rfl ?_
  refine hK36 _ _ ?_
  refine gnt (hK35 _ _ ?_)
  refine gc_ret ?_
  refine ret_S (n := 1) rfl rfl underlying27 rfl (by kernel_rfl) rfl (fun w M => ?_)
  obtain rfl : k = c.s.length := by omega
  exact ⟨_, rfl, ownC_star (c := oppM c) (mem_pick (n := 5) (mem_pick (n := 5) (mem_pick (n := 5) (mem_pick (n := 5) (M) rfl) rfl) rfl) rfl).2, M.1⟩
 simp only [sU, sL] at HJ7
 refine ga_start _ (fun w M => M) ?_
 refine gav 0 rfl (qtf underlying27 (z := 0) (off := 0)) ?_
 refine gav 1 rfl (qtl underlying2 (n := 0)) ?_
 refine gav 2 rfl (qtf underlying27 (z := 0) (off := 2)) ?_
 refine gav 3 rfl (qtl underlying24 (n := 0)) ?_
 refine gav 5 rfl (qtf underlying27 (z := 0) (off := 1)) ?_
 refine gav 6 rfl (qtl underlying24 (n := 0)) ?_
 refine gav 8 rfl (qtf underlying27 (z := 0) (off := 3)) ?_
 refine gav 9 rfl (qtl underlying24 (n := 0)) ?_
 refine ga_three 4 11 13 (by kernel_rfl) rfl (.free rfl) rfl (.free rfl) rfl (.free rfl) (fun K37 hK37 => ?_) (fun K37 hK37 => ?_) (fun K37 hK37 => ?_)
 ·refine go_callL rfl rfl rfl func68 rfl (by decide) rfl (fun w M => specOwn_any w _ _ (mem_rd M h2)) ?_
  intro va38 vc38
  refine hK37 _ _ (fun w M => (mem_take 2 M :)) ?_
  refine ga_three 7 11 13 (by kernel_rfl) rfl (.free rfl) rfl (.free rfl) rfl (.free rfl) (fun K40 hK40 => ?_) (fun K40 hK40 => ?_) (fun K40 hK40 => ?_)
  ·refine go_callL rfl rfl rfl func68 rfl (by decide) rfl (fun w M => specOwn_any w _ _ (mem_rd M h1)) ?_
   intro va41 vc41
   refine hK40 _ _ (fun w M => (mem_take 2 M :)) ?_
   refine ga_three 10 11 13 (by kernel_rfl) rfl (.free rfl) rfl (.free rfl) rfl (.free rfl) (fun K43 hK43 => ?_) (fun K43 hK43 => ?_) (fun K43 hK43 => ?_)
   ·refine go_callL rfl rfl rfl func68 rfl (by decide) rfl (fun w M => specOwn_any w _ _ (mem_rd M h3)) ?_
    intro va44 vc44
    refine hK43 _ _ (fun w M => (mem_take 2 M :)) ?_
    refine gat 11 13 (fun K46 hK46 => ?_) (fun K46 hK46 => ?_)
    ·refine go_sliceR0 rfl rfl rfl underlying25 ?_
     intro B47
     refine hK46 _ _ (fun w M => (mem_take 2 M :)) ?_
     refine gav 12 rfl (qt_build rfl rfl bt_Category) ?_
     refine gao 13 fun K50 hK50 => ?_
     refine go_alloc (z := (.agg #[.int .i64 0, .slice none 0 0, .slice none 0 0, .slice none 0 0, .slice none 0 0])) (cs := [.int .i64 0, .slice none 0 0, .slice none 0 0, .slice none 0 0, .slice none 0 0]) rfl rfl rfl (fun w => by kernel_rfl) rfl ?_
     intro B49
     refine hK50 _ _ (fun w M => (mem_take 2 M :)) ?_
     refine gao 14 fun K51 hK51 => ?_
     refine go_storeS (n := 6) rfl rfl rfl rfl (by kernel_rfl) rfl rfl rfl ?_
     refine hK51 _ _ (fun w M => (mem_take 2 M :)) ?_
     refine ga_done (by kernel_rfl) ?_
     refine gk_pickL [0, 0, 0, 0, 0, 0, 0] ?_
     refine gk_sub ?hs_52 (HJ7 (_, _, _, _, _, _, _, _))
     case hs_52 => repeat first | exact sub_nil | refine sub_cons rfl ?_
    refine go_alloc (z := (.agg #[.int .i64 0, .slice none 0 0, .slice none 0 0, .slice none 0 0, .slice none 0 0])) (cs := [.int .i64 0, .slice none 0 0, .slice none 0 0, .slice none 0 0, .slice none 0 0]) rfl rfl rfl (fun w => by kernel_rfl) rfl ?_
    intro B53
    refine hK46 _ _ (fun w M => (mem_take 2 M :)) ?_
    refine gao 11 fun K56 hK56 => ?_
    refine go_sliceR0 rfl rfl rfl underlying25 ?_
    intro B55
    refine hK56 _ _ (fun w M => (mem_take 2 M :)) ?_
    refine gav 12 rfl (qt_build rfl rfl bt_Category) ?_
    refine gao 14 fun K57 hK57 => ?_
    refine go_storeS (n := 5) rfl rfl rfl rfl (by kernel_rfl) rfl rfl rfl ?_
    refine hK57 _ _ (fun w M => (mem_take 2 M :)) ?_
    refine ga_done (by kernel_rfl) ?_
    refine gk_pickL [0, 0, 0, 0, 0, 1, 0] ?_
    refine gk_sub ?hs_58 (HJ7 (_, _, _, _, _, _, _, _))
    case hs_58 => repeat first | exact sub_nil | refine sub_cons rfl ?_
   ·refine go_sliceR0 rfl rfl rfl underlying25 ?_
    intro B59
    refine hK43 _ _ (fun w M => (mem_take 2 M :)) ?_
    refine gat 10 13 (fun K61 hK61 => ?_) (fun K61 hK61 => ?_)
    ·refine go_callL rfl rfl rfl func68 rfl (by decide) rfl (fun w M => specOwn_any w _ _ (mem_rd M h3)) ?_
     intro va62 vc62
     refine hK61 _ _ (fun w M => (mem_take 2 M :)) ?_
     refine gav 12 rfl (qt_build rfl rfl bt_Category) ?_
     refine gao 13 fun K65 hK65 => ?_
     refine go_alloc (z := (.agg #[.int .i64 0, .slice none 0 0, .slice none 0 0, .slice none 0 0, .slice none 0 0])) (cs := [.int .i64 0, .slice none 0 0, .slice none 0 0, .slice none 0 0, .slice none 0 0]) rfl rfl rfl (fun w => by kernel_rfl) rfl ?_
     intro B64
     refine hK65 _ _ (fun w M => (mem_take 2 M :)) ?_
     refine gao 14 fun K66 hK66 => ?_
     refine go_storeS (n := 6) rfl rfl rfl rfl (by kernel_rfl) rfl rfl rfl ?_
     refine hK66 _ _ (fun w M => (mem_take 2 M :)) ?_
     refine ga_done (by kernel_rfl) ?_
     refine gk_pickL [0, 0, 0, 0, 1, 0, 0] ?_
     refine gk_sub ?hs_67 (HJ7 (_, _, _, _, _, _, _, _))
     case hs_67 => repeat first | exact sub_nil | refine sub_cons rfl ?_
    refine go_alloc (z := (.agg #[.int .i64 0, .slice none 0 0, .slice none 0 0, .slice none 0 0, .slice none 0 0])) (cs := [.int .i64 0, .slice none 0 0, .slice none 0 0, .slice none 0 0, .slice none 0 0]) rfl rfl rfl (fun w => by kernel_rfl) rfl ?_
    intro B68
    refine hK61 _ _ (fun w M => (mem_take 2 M :)) ?_
    refine gao 10 fun K71 hK71 => ?_
    refine go_callL rfl rfl rfl func68 rfl (by decide) rfl (fun w M => specOwn_any w _ _ (mem_rd M h3)) ?_
    intro va70 vc70
    refine hK71 _ _ (fun w M => (mem_take 2 M :)) ?_
    refine gav 12 rfl (qt_build rfl rfl bt_Category) ?_
    refine gao 14 fun K72 hK72 => ?_
    refine go_storeS (n := 5) rfl rfl rfl rfl (by kernel_rfl) rfl rfl rfl ?_
    refine hK72 _ _ (fun w M => (mem_take 2 M :)) ?_
    refine ga_done (by kernel_rfl) ?_
    refine gk_pickL [0, 0, 0, 0, 2, 0, 0] ?_
    refine gk_sub ?hs_73 (HJ7 (_, _, _, _, _, _, _, _))
    case hs_73 => repeat first | exact sub_nil | refine sub_cons rfl ?_
   refine go_alloc (z := (.agg #[.int .i64 0, .slice none 0 0, .slice none 0 0, .slice none 0 0, .slice none 0 0])) (cs := [.int .i64 0, .slice none 0 0, .slice none 0 0, .slice none 0 0, .slice none 0 0]) rfl rfl rfl (fun w => by kernel_rfl) rfl ?_
   intro B74
   refine hK43 _ _ (fun w M => (mem_take 2 M :)) ?_
   refine gat 10 11 (fun K76 hK76 => ?_) (fun K76 hK76 => ?_)
   ·refine go_callL rfl rfl rfl func68 rfl (by decide) rfl (fun w M => specOwn_any w _ _ (mem_rd M h3)) ?_
    intro va77 vc77
    refine hK76 _ _ (fun w M => (mem_take 2 M :)) ?_
    refine gao 11 fun K80 hK80 => ?_
    refine go_sliceR0 rfl rfl rfl underlying25 ?_
    intro B79
    refine hK80 _ _ (fun w M => (mem_take 2 M :)) ?_
    refine gav 12 rfl (qt_build rfl rfl bt_Category) ?_
    refine gao 14 fun K81 hK81 => ?_
    refine go_storeS (n := 4) rfl rfl rfl rfl (by kernel_rfl) rfl rfl rfl ?_
    refine hK81 _ _ (fun w M => (mem_take 2 M :)) ?_
    refine ga_done (by kernel_rfl) ?_
    refine gk_pickL [0, 0, 0, 0, 1, 1, 0] ?_
    refine gk_sub ?hs_82 (HJ7 (_, _, _, _, _, _, _, _))
    case hs_82 => repeat first | exact sub_nil | refine sub_cons rfl ?_
   refine go_sliceR0 rfl rfl rfl underlying25 ?_
   intro B83
   refine hK76 _ _ (fun w M => (mem_take 2 M :)) ?_
   refine gao 10 fun K86 hK86 => ?_
   refine go_callL rfl rfl rfl func68 rfl (by decide) rfl (fun w M => specOwn_any w _ _ (mem_rd M h3)) ?_
   intro va85 vc85
   refine hK86 _ _ (fun w M => (mem_take 2 M :)) ?_
   refine gav 12 rfl (qt_build rfl rfl bt_Category) ?_
   refine gao 14 fun K87 hK87 => ?_
   refine go_storeS (n := 4) rfl rfl rfl rfl (by kernel_rfl) rfl rfl rfl ?_
   refine hK87 _ _ (fun w M => (mem_take 2 M :)) ?_
   refine ga_done (by kernel_rfl) ?_
   refine gk_pickL [0, 0, 0, 0, 2, 1, 0] ?_
   refine gk_sub ?hs_88 (HJ7 (_, _, _, _, _, _, _, _))
   case hs_88 => repeat first | exact sub_nil | refine sub_cons rfl ?_
  ·refine go_sliceR0 rfl rfl rfl underlying25 ?_
   intro B89
   refine hK40 _ _ (fun w M => (mem_take 2 M :)) ?_
   refine gat 7 13 (fun K91 hK91 => ?_) (fun K91 hK91 => ?_)
   ·refine go_callL rfl rfl rfl func68 rfl (by decide) rfl (fun w M => specOwn_any w _ _ (mem_rd M h1)) ?_
    intro va92 vc92
    refine hK91 _ _ (fun w M => (mem_take 2 M :)) ?_
    refine gat 10 13 (fun K94 hK94 => ?_) (fun K94 hK94 => ?_)
    ·refine go_callL rfl rfl rfl func68 rfl (by decide) rfl (fun w M => specOwn_any w _ _ (mem_rd M h3)) ?_
     intro va95 vc95
     refine hK94 _ _ (fun w M => (mem_take 2 M :)) ?_
     refine gav 12 rfl (qt_build rfl rfl bt_Category) ?_
     refine gao 13 fun K98 hK98 => ?_
     refine go_alloc (z := (.agg #[.int .i64 0, .slice none 0 0, .slice none 0 0, .slice none 0 0, .slice none 0 0])) (cs := [.int .i64 0, .slice none 0 0, .slice none 0 0, .slice none 0 0, .slice none 0 0]) rfl rfl rfl (fun w => by kernel_rfl) rfl ?_
     intro B97
     refine hK98 _ _ (fun w M => (mem_take 2 M :)) ?_
     refine gao 14 fun K99 hK99 => ?_
     refine go_storeS (n := 6) rfl rfl rfl rfl (by kernel_rfl) rfl rfl rfl ?_
     refine hK99 _ _ (fun w M => (mem_take 2 M :)) ?_
     refine ga_done (by kernel_rfl) ?_
     refine gk_pickL [0, 0, 0, 1, 1, 0, 0] ?_
     refine gk_sub ?hs_100 (HJ7 (_, _, _, _, _, _, _, _))
     case hs_100 => repeat first | exact sub_nil | refine sub_cons rfl ?_
    refine go_alloc (z := (.agg #[.int .i64 0, .slice none 0 0, .slice none 0 0, .slice none 0 0, .slice none 0 0])) (cs := [.int .i64 0, .slice none 0 0, .slice none 0 0, .slice none 0 0, .slice none 0 0]) rfl rfl rfl (fun w => by kernel_rfl) rfl ?_
    intro B101
    refine hK94 _ _ (fun w M => (mem_take 2 M :)) ?_
    refine gao 10 fun K104 hK104 => ?_
    refine go_callL rfl rfl rfl func68 rfl (by decide) rfl (fun w M => specOwn_any w _ _ (mem_rd M h3)) ?_
    intro va103 vc103
    refine hK104 _ _ (fun w M => (mem_take 2 M :)) ?_
    refine gav 12 rfl (qt_build rfl rfl bt_Category) ?_
    refine gao 14 fun K105 hK105 => ?_
    refine go_storeS (n := 5) rfl rfl rfl rfl (by kernel_rfl) rfl rfl rfl ?_
    refine hK105 _ _ (fun w M => (mem_take 2 M :)) ?_
    refine ga_done (by kernel_rfl) ?_
    refine gk_pickL [0, 0, 0, 1, 2, 0, 0] ?_
    refine gk_sub ?hs_106 (HJ7 (_, _, _, _, _, _, _, _))
    case hs_106 => repeat first | exact sub_nil | refine sub_cons rfl ?_
   refine go_alloc (z := (.agg #[.int .i64 0, .slice none 0 0, .slice none 0 0, .slice none 0 0, .slice none 0 0])) (cs := [.int .i64 0, .slice none 0 0, .slice none 0 0, .slice none 0 0, .slice none 0 0]) rfl rfl rfl (fun w => by kernel_rfl) rfl ?_
   intro B107
   refine hK91 _ _ (fun w M => (mem_take 2 M :)) ?_
   refine gao 7 fun K110 hK110 => ?_
   refine go_callL rfl rfl rfl func68 rfl (by decide) rfl (fun w M => specOwn_any w _ _ (mem_rd M h1)) ?_
   intro va109 vc109
   refine hK110 _ _ (fun w M => (mem_take 2 M :)) ?_
   refine gao 10 fun K112 hK112 => ?_
   refine go_callL rfl rfl rfl func68 rfl (by decide) rfl (fun w M => specOwn_any w _ _ (mem_rd M h3)) ?_
   intro va111 vc111
   refine hK112 _ _ (fun w M => (mem_take 2 M :)) ?_
   refine gav 12 rfl (qt_build rfl rfl bt_Category) ?_
   refine gao 14 fun K113 hK113 => ?_
   refine go_storeS (n := 4) rfl rfl rfl rfl (by kernel_rfl) rfl rfl rfl ?_
   refine hK113 _ _ (fun w M => (mem_take 2 M :)) ?_
   refine ga_done (by kernel_rfl) ?_
   refine gk_pickL [0, 0, 0, 2, 2, 0, 0] ?_
   refine gk_sub ?hs_114 (HJ7 (_, _, _, _, _, _, _, _))
   case hs_114 => repeat first | exact sub_nil | refine sub_cons rfl ?_
  refine go_alloc (z := (.agg #[.int .i64 0, .slice none 0 0, .slice none 0 0, .slice none 0 0, .slice none 0 0])) (cs := [.int .i64 0, .slice none 0 0, .slice none 0 0, .slice none 0 0, .slice none 0 0]) rfl rfl rfl (fun w => by kernel_rfl) rfl ?_
  intro B115
  refine hK40 _ _ (fun w M => (mem_take 2 M :)) ?_
  refine gat 7 11 (fun K117 hK117 => ?_) (fun K117 hK117 => ?_)
  ·refine go_callL rfl rfl rfl func68 rfl (by decide) rfl (fun w M => specOwn_any w _ _ (mem_rd M h1)) ?_
   intro va118 vc118
   refine hK117 _ _ (fun w M => (mem_take 2 M :)) ?_
   refine gat 10 11 (fun K120 hK120 => ?_) (fun K120 hK120 => ?_)
   ·refine go_callL rfl rfl rfl func68 rfl (by decide) rfl (fun w M => specOwn_any w _ _ (mem_rd M h3)) ?_
    intro va121 vc121
    refine hK120 _ _ (fun w M => (mem_take 2 M :)) ?_
    refine gao 11 fun K124 hK124 => ?_
    refine go_sliceR0 rfl rfl rfl underlying25 ?_
    intro B123
    refine hK124 _ _ (fun w M => (mem_take 2 M :)) ?_
    refine gav 12 rfl (qt_build rfl rfl bt_Category) ?_
    refine gao 14 fun K125 hK125 => ?_
    refine go_storeS (n := 3) rfl rfl rfl rfl (by kernel_rfl) rfl rfl rfl ?_
    refine hK125 _ _ (fun w M => (mem_take 2 M :)) ?_
    refine ga_done (by kernel_rfl) ?_
    refine gk_pickL [0, 0, 0, 1, 1, 1, 0] ?_
    refine gk_sub ?hs_126 (HJ7 (_, _, _, _, _, _, _, _))
    case hs_126 => repeat first | exact sub_nil | refine sub_cons rfl ?_
   refine go_sliceR0 rfl rfl rfl underlying25 ?_
   intro B127
   refine hK120 _ _ (fun w M => (mem_take 2 M :)) ?_
   refine gao 10 fun K130 hK130 => ?_
   refine go_callL rfl rfl rfl func68 rfl (by decide) rfl (fun w M => specOwn_any w _ _ (mem_rd M h3)) ?_
   intro va129 vc129
   refine hK130 _ _ (fun w M => (mem_take 2 M :)) ?_
   refine gav 12 rfl (qt_build rfl rfl bt_Category) ?_
   refine gao 14 fun K131 hK131 => ?_
   refine go_storeS (n := 3) rfl rfl rfl rfl (by kernel_rfl) rfl rfl rfl ?_
   refine hK131 _ _ (fun w M => (mem_take 2 M :)) ?_
   refine ga_done (by kernel_rfl) ?_
   refine gk_pickL [0, 0, 0, 1, 2, 1, 0] ?_
   refine gk_sub ?hs_132 (HJ7 (_, _, _, _, _, _, _, _))
   case hs_132 => repeat first | exact sub_nil | refine sub_cons rfl ?_
  refine go_sliceR0 rfl rfl rfl underlying25 ?_
  intro B133
  refine hK117 _ _ (fun w M => (mem_take 2 M :)) ?_
  refine gao 7 fun K136 hK136 => ?_
  refine go_callL rfl rfl rfl func68 rfl (by decide) rfl (fun w M => specOwn_any w _ _ (mem_rd M h1)) ?_
  intro va135 vc135
  refine hK136 _ _ (fun w M => (mem_take 2 M :)) ?_
  refine gao 10 fun K138 hK138 => ?_
  refine go_callL rfl rfl rfl func68 rfl (by decide) rfl (fun w M => specOwn_any w _ _ (mem_rd M h3)) ?_
  intro va137 vc137
  refine hK138 _ _ (fun w M => (mem_take 2 M :)) ?_
  refine gav 12 rfl (qt_build rfl rfl bt_Category) ?_
  refine gao 14 fun K139 hK139 => ?_
  refine go_storeS (n := 3) rfl rfl rfl rfl (by kernel_rfl) rfl rfl rfl ?_
  refine hK139 _ _ (fun w M => (mem_take 2 M :)) ?_
  refine ga_done (by kernel_rfl) ?_
  refine gk_pickL [0, 0, 0, 2, 2, 1, 0] ?_
  refine gk_sub ?hs_140 (HJ7 (_, _, _, _, _, _, _, _))
  case hs_140 => repeat first | exact sub_nil | refine sub_cons rfl ?_
 ·refine go_sliceR0 rfl rfl rfl underlying25 ?_
  intro B141
  refine hK37 _ _ (fun w M => (mem_take 2 M :)) ?_
  refine gat 4 13 (fun K143 hK143 => ?_) (fun K143 hK143 => ?_)
  ·refine go_callL rfl rfl rfl func68 rfl (by decide) rfl (fun w M => specOwn_any w _ _ (mem_rd M h2)) ?_
   intro va144 vc144
   refine hK143 _ _ (fun w M => (mem_take 2 M :)) ?_
   refine gat 7 13 (fun K146 hK146 => ?_) (fun K146 hK146 => ?_)
   ·refine go_callL rfl rfl rfl func68 rfl (by decide) rfl (fun w M => specOwn_any w _ _ (mem_rd M h1)) ?_
    intro va147 vc147
    refine hK146 _ _ (fun w M => (mem_take 2 M :)) ?_
    refine gat 10 13 (fun K149 hK149 => ?_) (fun K149 hK149 => ?_)
    ·refine go_callL rfl rfl rfl func68 rfl (by decide) rfl (fun w M => specOwn_any w _ _ (mem_rd M h3)) ?_
     intro va150 vc150
     refine hK149 _ _ (fun w M => (mem_take 2 M :)) ?_
     refine gav 12 rfl (qt_build rfl rfl bt_Category) ?_
     refine gao 13 fun K153 hK153 => ?_
     refine go_alloc (z := (.agg #[.int .i64 0, .slice none 0 0, .slice none 0 0, .slice none 0 0, .slice none 0 0])) (cs := [.int .i64 0, .slice none 0 0, .slice none 0 0, .slice none 0 0, .slice none 0 0]) rfl rfl rfl (fun w => by kernel_rfl) rfl ?_
     intro B152
     refine hK153 _ _ (fun w M => (mem_take 2 M :)) ?_
     refine gao 14 fun K154 hK154 => ?_
     refine go_storeS (n := 6) rfl rfl rfl rfl (by kernel_rfl) rfl rfl rfl ?_
     refine hK154 _ _ (fun w M => (mem_take 2 M :)) ?_
     refine ga_done (by kernel_rfl) ?_
     refine gk_pickL [0, 0, 1, 1, 1, 0, 0] ?_
     refine gk_sub ?hs_155 (HJ7 (_, _, _, _, _, _, _, _))
     case hs_155 => repeat first | exact sub_nil | refine sub_cons rfl ?_
    refine go_alloc (z := (.agg #[.int .i64 0, .slice none 0 0, .slice none 0 0, .slice none 0 0, .slice none 0 0])) (cs := [.int .i64 0, .slice none 0 0, .slice none 0 0, .slice none 0 0, .slice none 0 0]) rfl rfl rfl (fun w => by kernel_rfl) rfl ?_
    intro B156
    refine hK149 _ _ (fun w M => (mem_take 2 M :)) ?_
    refine gao 10 fun K159 hK159 => ?_
    refine go_callL rfl rfl rfl func68 rfl (by decide) rfl (fun w M => specOwn_any w _ _ (mem_rd M h3)) ?_
    intro va158 vc158
    refine hK159 _ _ (fun w M => (mem_take 2 M :)) ?_
    refine gav 12 rfl (qt_build rfl rfl bt_Category) ?_
    refine gao 14 fun K160 hK160 => ?_
    refine go_storeS (n := 5) rfl rfl rfl rfl (by kernel_rfl) rfl rfl rfl ?_
    refine hK160 _ _ (fun w M => (mem_take 2 M :)) ?_
    refine ga_done (by kernel_rfl) ?_
    refine gk_pickL [0, 0, 1, 1, 2, 0, 0] ?_
    refine gk_sub ?hs_161 (HJ7 (_, _, _, _, _, _, _, _))
    case hs_161 => repeat first | exact sub_nil | refine sub_cons rfl ?_
   refine go_alloc (z := (.agg #[.int .i64 0, .slice none 0 0, .slice none 0 0, .slice none 0 0, .slice none 0 0])) (cs := [.int .i64 0, .slice none 0 0, .slice none 0 0, .slice none 0 0, .slice none 0 0]) rfl rfl rfl (fun w => by kernel_rfl) rfl ?_
   intro B162
   refine hK146 _ _ (fun w M => (mem_take 2 M :)) ?_
   refine gao 7 fun K165 hK165 => ?_
   refine go_callL rfl rfl rfl func68 rfl (by decide) rfl (fun w M => specOwn_any w _ _ (mem_rd M h1)) ?_
   intro va164 vc164
   refine hK165 _ _ (fun w M => (mem_take 2 M :)) ?_
   refine gao 10 fun K167 hK167 => ?_
   refine go_callL rfl rfl rfl func68 rfl (by decide) rfl (fun w M => specOwn_any w _ _ (mem_rd M h3)) ?_
   intro va166 vc166
   refine hK167 _ _ (fun w M => (mem_take 2 M :)) ?_
   refine gav 12 rfl (qt_build rfl rfl bt_Category) ?_
   refine gao 14 fun K168 hK168 => ?_
   refine go_storeS (n := 4) rfl rfl rfl rfl (by kernel_rfl) rfl rfl rfl ?_
   refine hK168 _ _ (fun w M => (mem_take 2 M :)) ?_
   refine ga_done (by kernel_rfl) ?_
   refine gk_pickL [0, 0, 1, 2, 2, 0, 0] ?_
   refine gk_sub ?hs_169 (HJ7 (_, _, _, _, _, _, _, _))
   case hs_169 => repeat first | exact sub_nil | refine sub_cons rfl ?_
  refine go_alloc (z := (.agg #[.int .i64 0, .slice none 0 0, .slice none 0 0, .slice none 0 0, .slice none 0 0])) (cs := [.int .i64 0, .slice none 0 0, .slice none 0 0, .slice none 0 0, .slice none 0 0]) rfl rfl rfl (fun w => by kernel_rfl) rfl ?_
  intro B170
  refine hK143 _ _ (fun w M => (mem_take 2 M :)) ?_
  refine gao 4 fun K173 hK173 => ?_
  refine go_callL rfl rfl rfl func68 rfl (by decide) rfl (fun w M => specOwn_any w _ _ (mem_rd M h2)) ?_
  intro va172 vc172
  refine hK173 _ _ (fun w M => (mem_take 2 M :)) ?_
  refine gao 7 fun K175 hK175 => ?_
  refine go_callL rfl rfl rfl func68 rfl (by decide) rfl (fun w M => specOwn_any w _ _ (mem_rd M h1)) ?_
  intro va174 vc174
  refine hK175 _ _ (fun w M => (mem_take 2 M :)) ?_
  refine gao 10 fun K177 hK177 => ?_
  refine go_callL rfl rfl rfl func68 rfl (by decide) rfl (fun w M => specOwn_any w _ _ (mem_rd M h3)) ?_
  intro va176 vc176
  refine hK177 _ _ (fun w M => (mem_take 2 M :)) ?_
  refine gav 12 rfl (qt_build rfl rfl bt_Category) ?_
  refine gao 14 fun K178 hK178 => ?_
  refine go_storeS (n := 3) rfl rfl rfl rfl (by kernel_rfl) rfl rfl rfl ?_
  refine hK178 _ _ (fun w M => (mem_take 2 M :)) ?_
  refine ga_done (by kernel_rfl) ?_
  refine gk_pickL [0, 0, 2, 2, 2, 0, 0] ?_
  refine gk_sub ?hs_179 (HJ7 (_, _, _, _, _, _, _, _))
  case hs_179 => repeat first | exact sub_nil | refine sub_cons rfl ?_
 refine go_alloc (z := (.agg #[.int .i64 0, .slice none 0 0, .slice none 0 0, .slice none 0 0, .slice none 0 0])) (cs := [.int .i64 0, .slice none 0 0, .slice none 0 0, .slice none 0 0, .slice none 0 0]) rfl rfl rfl (fun w => by kernel_rfl) rfl ?_
 intro B180
 refine hK37 _ _ (fun w M => (mem_take 2 M :)) ?_
 refine gat 4 11 (fun K182 hK182 => ?_) (fun K182 hK182 => ?_)
 ·refine go_callL rfl rfl rfl func68 rfl (by decide) rfl (fun w M => specOwn_any w _ _ (mem_rd M h2)) ?_
  intro va183 vc183
  refine hK182 _ _ (fun w M => (mem_take 2 M :)) ?_
  refine gat 7 11 (fun K185 hK185 => ?_) (fun K185 hK185 => ?_)
  ·refine go_callL rfl rfl rfl func68 rfl (by decide) rfl (fun w M => specOwn_any w _ _ (mem_rd M h1)) ?_
   intro va186 vc186
   refine hK185 _ _ (fun w M => (mem_take 2 M :)) ?_
   refine gat 10 11 (fun K188 hK188 => ?_) (fun K188 hK188 => ?_)
   ·refine go_callL rfl rfl rfl func68 rfl (by decide) rfl (fun w M => specOwn_any w _ _ (mem_rd M h3)) ?_
    intro va189 vc189
    refine hK188 _ _ (fun w M => (mem_take 2 M :)) ?_
    refine gao 11 fun K192 hK192 => ?_
    refine go_sliceR0 rfl rfl rfl underlying25 ?_
    intro B191
    refine hK192 _ _ (fun w M => (mem_take 2 M :)) ?_
    refine gav 12 rfl (qt_build rfl rfl bt_Category) ?_
    refine gao 14 fun K193 hK193 => ?_
    refine go_storeS (n := 2) rfl rfl rfl rfl (by kernel_rfl) rfl rfl rfl ?_
    refine hK193 _ _ (fun w M => (mem_take 2 M :)) ?_
    refine ga_done (by kernel_rfl) ?_
    refine gk_pickL [0, 0, 1, 1, 1, 1, 0] ?_
    refine gk_sub ?hs_194 (HJ7 (_, _, _, _, _, _, _, _))
    case hs_194 => repeat first | exact sub_nil | refine sub_cons rfl ?_
   refine go_sliceR0 rfl rfl rfl underlying25 ?_
   intro B195
   refine hK188 _ _ (fun w M => (mem_take 2 M :)) ?_
   refine gao 10 fun K198 hK198 => ?_
   refine go_callL rfl rfl rfl func68 rfl (by decide) rfl (fun w M => specOwn_any w _ _ (mem_rd M h3)) ?_
   intro va197 vc197
   refine hK198 _ _ (fun w M => (mem_take 2 M :)) ?_
   refine gav 12 rfl (qt_build rfl rfl bt_Category) ?_
   refine gao 14 fun K199 hK199 => ?_
   refine go_storeS (n := 2) rfl rfl rfl rfl (by kernel_rfl) rfl rfl rfl ?_
   refine hK199 _ _ (fun w M => (mem_take 2 M :)) ?_
   refine ga_done (by kernel_rfl) ?_
   refine gk_pickL [0, 0, 1, 1, 2, 1, 0] ?_
   refine gk_sub ?hs_200 (HJ7 (_, _, _, _, _, _, _, _))
   case hs_200 => repeat first | exact sub_nil | refine sub_cons rfl ?_
  refine go_sliceR0 rfl rfl rfl underlying25 ?_
  intro B201
  refine hK185 _ _ (fun w M => (mem_take 2 M :)) ?_
  refine gao 7 fun K204 hK204 => ?_
  refine go_callL rfl rfl rfl func68 rfl (by decide) rfl (fun w M => specOwn_any w _ _ (mem_rd M h1)) ?_
  intro va203 vc203
  refine hK204 _ _ (fun w M => (mem_take 2 M :)) ?_
  refine gao 10 fun K206 hK206 => ?_
  refine go_callL rfl rfl rfl func68 rfl (by decide) rfl (fun w M => specOwn_any w _ _ (mem_rd M h3)) ?_
  intro va205 vc205
  refine hK206 _ _ (fun w M => (mem_take 2 M :)) ?_
  refine gav 12 rfl (qt_build rfl rfl bt_Category) ?_
  refine gao 14 fun K207 hK207 => ?_
  refine go_storeS (n := 2) rfl rfl rfl rfl (by kernel_rfl) rfl rfl rfl ?_
  refine hK207 _ _ (fun w M => (mem_take 2 M :)) ?_
  refine ga_done (by kernel_rfl) ?_
  refine gk_pickL [0, 0, 1, 2, 2, 1, 0] ?_
  refine gk_sub ?hs_208 (HJ7 (_, _, _, _, _, _, _, _))
  case hs_208 => repeat first | exact sub_nil | refine sub_cons rfl ?_
 refine go_sliceR0 rfl rfl rfl underlying25 ?_
 intro B209
 refine hK182 _ _ (fun w M => (mem_take 2 M :)) ?_
 refine gao 4 fun K212 hK212 => ?_
 refine go_callL rfl rfl rfl func68 rfl (by decide) rfl (fun w M => specOwn_any w _ _ (mem_rd M h2)) ?_
 intro va211 vc211
 refine hK212 _ _ (fun w M => (mem_take 2 M :)) ?_
 refine gao 7 fun K214 hK214 => ?_
 refine go_callL rfl rfl rfl func68 rfl (by decide) rfl (fun w M => specOwn_any w _ _ (mem_rd M h1)) ?_
 intro va213 vc213
 refine hK214 _ _ (fun w M => (mem_take 2 M :)) ?_
 refine gao 10 fun K216 hK216 => ?_
 refine go_callL rfl rfl rfl func68 rfl (by decide) rfl (fun w M => specOwn_any w _ _ (mem_rd M h3)) ?_
 intro va215 vc215
 refine hK216 _ _ (fun w M => (mem_take 2 M :)) ?_
 refine gav 12 rfl (qt_build rfl rfl bt_Category) ?_
 refine gao 14 fun K217 hK217 => ?_
 refine go_storeS (n := 2) rfl rfl rfl rfl (by kernel_rfl) rfl rfl rfl ?_
 refine hK217 _ _ (fun w M => (mem_take 2 M :)) ?_
 refine ga_done (by kernel_rfl) ?_
 refine gk_pickL [0, 0, 2, 2, 2, 1, 0] ?_
 refine gk_sub ?hs_218 (HJ7 (_, _, _, _, _, _, _, _))
 case hs_218 => repeat first | exact sub_nil | refine sub_cons rfl ?_
end Go.Proofs.Ytbiplocgenppoaa
namespace Go.Proofs.Ytbiplocgenppoaa
open _root_.Go.Proofs.Try
open Go.RowKit
theorem allP_ext {n : Int} {l : List Int} (h : ∀ k : Nat, k < l.length → 0 ≤ at0 l (k : Int) ∧ at0 l (k : Int) < n) : AllP n l := fun x hx => by
  obtain ⟨k, hk, rfl⟩ := List.getElem_of_mem hx
  have := h k hk
  rw [at0_nat, List.getD_eq_getElem?_getD, List.getElem?_eq_getElem hk] at this
  exact this
theorem shape_by {c : Cat} {N m : Nat} {S T E : Nat → Int} {M : Nat → Nat → Int} (hob : c.ob = (N : Int)) (hn : N ≤ 8) (hm : m ≤ 40) (ls : c.s.length = m) (lt : c.t.length = m) (le : c.e.length = N) (lm : c.m.length = m)
    (lr : ∀ f : Nat, f < m → (row2 c.m (f : Int)).length = m) (hS : ∀ f : Nat, f < m → at0 c.s (f : Int) = S f) (hT : ∀ f : Nat, f < m → at0 c.t (f : Int) = T f) (hE : ∀ x : Nat, x < N → at0 c.e (x : Int) = E x) (hM : ∀ f g : Nat, f < m → g < m → at0 (row2 c.m (f : Int)) (g : Int) = M f g)
    (rS : ∀ f : Nat, f < m → 0 ≤ S f ∧ S f < N) (rT : ∀ f : Nat, f < m → 0 ≤ T f ∧ T f < N) (hid : ∀ x : Nat, x < N → 0 ≤ E x ∧ E x < m ∧ S (E x).toNat = x ∧ T (E x).toNat = x)
    (hco : ∀ f g : Nat, f < m → g < m → (T f = S g → 0 ≤ M f g ∧ M f g < m ∧ S (M f g).toNat = S f ∧ T (M f g).toNat = T g) ∧ (T f ≠ S g → M f g = -1)) : ShapeP c where
  ob0 := by omega
  ob8 := by omega
  n40 := by omega
  el := by omega
  tl := by omega
  ml := by omega
  rl j hj := by
    have := lr j (by omega)
    rw [row2_of, Int.toNat_natCast] at this
    omega
  sa := allP_ext fun k hk => by rw [hS k (by omega), hob]; exact rS k (by omega)
  ta := allP_ext fun k hk => by rw [hT k (by omega), hob]; exact rT k (by omega)
  id x hx := by
    have h := hid x (by omega)
    have hk : ((E x).toNat : Int) = E x := Int.toNat_of_nonneg h.1
    unfold okIdent Cat.arr
    rw [hE x (by omega), ls]
    refine ⟨⟨h.1, h.2.1⟩, ?_, ?_⟩
    · rw [← hk, hS _ (by omega)]; exact h.2.2.1
    rw [← hk, hT _ (by omega)]; exact h.2.2.2
  co f g hf hg := by
    have h := hco f g (by omega) (by omega)
    unfold okComp Cat.arr Cat.th
    rw [hM f g (by omega) (by omega), hS f (by omega), hS g (by omega), hT f (by omega), hT g (by omega), ls]
    refine ⟨fun he => ?_, h.2⟩
    have h := h.1 he
    have hk : ((M f g).toNat : Int) = M f g := Int.toNat_of_nonneg h.1
    refine ⟨⟨h.1, h.2.1⟩, ?_, ?_⟩
    · rw [← hk, hS _ (by omega)]; exact h.2.2.1
    rw [← hk, hT _ (by omega)]; exact h.2.2.2
theorem shape_id {c : Cat} (hS : ShapeP c) {x : Nat} (hx : x < c.e.length) : ∃ k : Nat, at0 c.e (x : Int) = (k : Int) ∧ k < c.s.length ∧ at0 c.s (k : Int) = x ∧ at0 c.t (k : Int) = x := by
  obtain ⟨⟨h0, h1⟩, h2, h3⟩ := hS.id x hx
  obtain ⟨k, hk⟩ := Int.eq_ofNat_of_zero_le h0
  rw [hk] at h1 h2 h3
  exact ⟨k, hk, by omega, h2, h3⟩
theorem shape_co {c : Cat} (hS : ShapeP c) {f g : Nat} (hf : f < c.s.length) (hg : g < c.s.length) (h : at0 c.t (f : Int) = at0 c.s (g : Int)) : ∃ k : Nat, at0 (row2 c.m (f : Int)) (g : Int) = (k : Int) ∧ k < c.s.length ∧ at0 c.s (k : Int) = at0 c.s (f : Int) ∧ at0 c.t (k : Int) = at0 c.t (g : Int) := by
  obtain ⟨⟨h0, h1⟩, h2, h3⟩ := (hS.co f g hf hg).1 h
  obtain ⟨k, hk⟩ := Int.eq_ofNat_of_zero_le h0
  rw [hk] at h1 h2 h3
  exact ⟨k, hk, by omega, h2, h3⟩
theorem opp_shape {c : Cat} (hS : ShapeP c) : ShapeP (oppM c) := by
  have ob0 := hS.ob0; have ob8 := hS.ob8; have n40 := hS.n40; have el := hS.el; have tl := hS.tl
  refine shape_by (N := c.ob.toNat) (m := c.s.length) (S := fun f => at0 c.t (f : Int)) (T := fun f => at0 c.s (f : Int)) (E := fun x => at0 c.e (x : Int)) (M := fun f g => at0 (row2 c.m (g : Int)) (f : Int)) (by show c.ob = _; omega) (by omega) n40 tl rfl (by show c.e.length = _; omega) (rowsTo_len _ _)
    (fun f hf => by show (row2 (rowsTo _ _) _).length = _; rw [rowsTo_at _ hf, tabTo_len]) (fun f hf => rfl) (fun f hf => rfl) (fun x hx => rfl) (fun f g hf hg => by show at0 (row2 (rowsTo _ _) _) _ = _; rw [rowsTo_at _ hf, tabTo_at _ hg]; rfl)
    (fun f hf => by have := allP_at hS.ta (k := f) (by omega); omega) (fun f hf => by have := allP_at hS.sa (k := f) (by omega); omega) (fun x hx => ?_) (fun f g hf hg => ?_)
  · obtain ⟨k, hk, h1, h2, h3⟩ := shape_id hS (x := x) (by omega)
    rw [hk, Int.toNat_natCast]
    exact ⟨by omega, by omega, h3, h2⟩
  refine ⟨fun he => ?_, fun he => ?_⟩
  · obtain ⟨k, hk, h1, h2, h3⟩ := shape_co hS hg hf he.symm
    rw [hk, Int.toNat_natCast]
    exact ⟨by omega, by omega, h3, h2⟩
  exact (hS.co g f hg hf).2 fun e => he e.symm
end Go.Proofs.Ytbiplocgenppoaa
namespace Go.Proofs.Ytbiplocgenppoaa
open _root_.Go.Proofs.Try
open Go.RowKit
end Go.Proofs.Ytbiplocgenppoaa
