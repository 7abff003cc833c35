import Derived.Test.YtbiplocgenppoaaS4
import Derived.Test.YtbiplocgenppoaaS14
set_option maxHeartbeats 1000000
set_option maxRecDepth 100000
set_option linter.unusedSimpArgs false
set_option linter.unusedVariables false
set_option linter.unusedSectionVars false
namespace Go.Proofs.Ytbiplocgenppoaa
open _root_.Go.Proofs.Try
open Go.RowKit
def okD (c d : Cat) (f1 g1 f2 g2 : Nat) : Prop := 0 ≤ c.th (f1 : Int) (f2 : Int) ∧ 0 ≤ d.th (g1 : Int) (g2 : Int)
open Classical in
noncomputable def pdM (c d : Cat) (f1 g1 f2 g2 : Nat) : Int := if okD c d f1 g1 f2 g2 then c.th (f1 : Int) (f2 : Int) * d.s.length + d.th (g1 : Int) (g2 : Int) else -1
theorem pdM_t {c d : Cat} {f1 g1 f2 g2 : Nat} (h : 0 ≤ c.th (f1 : Int) (f2 : Int)) (h' : 0 ≤ d.th (g1 : Int) (g2 : Int)) : c.th (f1 : Int) (f2 : Int) * d.s.length + d.th (g1 : Int) (g2 : Int) = pdM c d f1 g1 f2 g2 := (if_pos ⟨h, h'⟩).symm
theorem pdM_f {c d : Cat} {f1 g1 f2 g2 : Nat} (h : ¬ okD c d f1 g1 f2 g2) : (-1 : Int) = pdM c d f1 g1 f2 g2 := (if_neg h).symm
def pdS (c d : Cat) (a b : Nat) : Int := at0 c.s (a : Int) * d.ob + at0 d.s (b : Int)
def pdT (c d : Cat) (a b : Nat) : Int := at0 c.t (a : Int) * d.ob + at0 d.t (b : Int)
def pdE (c d : Cat) (x y : Nat) : Int := at0 c.e (x : Int) * d.s.length + at0 d.e (y : Int)
noncomputable def pdR (c d : Cat) (a b : Nat) : List Int := tab2 (fun f g => pdM c d a b f g) d.s.length c.s.length 0
theorem pdS_def (c d : Cat) (a b : Nat) : at0 c.s (a : Int) * d.ob + at0 d.s (b : Int) = pdS c d a b := rfl
theorem pdT_def (c d : Cat) (a b : Nat) : at0 c.t (a : Int) * d.ob + at0 d.t (b : Int) = pdT c d a b := rfl
theorem pdE_def (c d : Cat) (a b : Nat) : at0 c.e (a : Int) * d.s.length + at0 d.e (b : Int) = pdE c d a b := rfl
noncomputable def prodM (c d : Cat) : Cat := ⟨c.ob * d.ob, tab2 (pdS c d) d.s.length c.s.length 0, tab2 (pdT c d) d.s.length c.s.length 0, tab2 (pdE c d) d.ob.toNat c.ob.toNat 0, rows2 (pdR c d) d.s.length c.s.length 0⟩
theorem pdR_def (c d : Cat) (a b : Nat) : tab2 (fun f g => pdM c d a b f g) d.s.length c.s.length 0 = pdR c d a b := rfl
theorem th_lt {c : Cat} (hS : ShapeP c) {f g : Nat} (hf : f < c.s.length) (hg : g < c.s.length) : at0 (row2 c.m (f : Int)) (g : Int) < (c.s.length : Int) := by
 by_cases he : at0 c.t (f : Int) = at0 c.s (g : Int)
 ·exact (th_ends hS (f := (f : Int)) (g := (g : Int)) (by omega) (by omega) (by omega) (by omega) he).1.2
 have h1 := (th_none hS (f := (f : Int)) (g := (g : Int)) (by omega) (by omega) (by omega) (by omega)).2 he
 have h2 : at0 (row2 c.m (f : Int)) (g : Int) = -1 := h1
 omega
theorem at_lt {n : Int} {l : List Int} (h : AllP n l) {k : Nat} (hk : k < l.length) : 0 ≤ at0 l (k : Int) ∧ at0 l (k : Int) < n := allP_at h hk
theorem mul_bd {x : Int} {a b : Int} (hx : 0 ≤ x ∧ x < a) (ha : a ≤ 40) (hb : 0 ≤ b ∧ b ≤ 40) : 0 ≤ x * b ∧ x * b ≤ 1600 := ⟨Int.mul_nonneg hx.1 hb.1, by have := Int.mul_le_mul (show x ≤ 40 by omega) hb.2 hb.1 (by omega); omega⟩
theorem grid_small {n m a b : Nat} (hn : n ≤ 40) (hm : m ≤ 40) (ha : a < n) (hb : b ≤ m) : m * a + b ≤ 1600 := by
 have h1 := grid_le (n := n) ha hb
 have h2 : m * n ≤ 40 * 40 := Nat.mul_le_mul hm hn
 omega
theorem specProduct_any (w : World) (v : Value) (c : Cat) (h : RdC w v c) (u : Value) (d : Cat) (e : RdC w u d) (hS : ShapeP c) (gS : ShapeP d) :
  Calls Try.prog 83 #[v, u] w (RetC w (prodM c d)) := by
 have h0 := h
 obtain ⟨va, vb, vc, vd, ve, vf, vg, vh, rfl, h1, h2, h3, h4, _⟩ := h.lists
 have e0 := e
 obtain ⟨ua, ub, uc, ud, ue, uf, ug, uh, rfl, e1, e2, e3, e4, _⟩ := e.lists
 have hn40 := hS.n40; have htl := hS.tl; have hel := hS.el; have hob0 := hS.ob0; have hob8 := hS.ob8; have hml := hS.ml
 have gn40 := gS.n40; have gtl := gS.tl; have gel := gS.el; have gob0 := gS.ob0; have gob8 := gS.ob8; have gml := gS.ml
 go_enter func83, Try.ntmps83
 refine gc_enter (N := 174) rfl (look_cons (k := 0) rfl (look_cons (k := 1) rfl (look_nil _))) ?_
 refine gc_sr fun K1 hK1 => ?_
 refine gop fun K3 hK3 => ?_
 refine go_box rfl rfl rfl rfl rfl ?_
 intro B2
 refine hK3 _ _ ?_
 refine gop fun K5 hK5 => ?_
 refine go_box rfl rfl rfl rfl rfl ?_
 intro B4
 refine hK5 _ _ ?_
 refine gop fun K7 hK7 => ?_
 refine galC ?_
 intro B6
 refine hK7 _ _ ?_
 refine gnt (hK1 _ _ ?_)
 refine gc_seq fun K8 hK8 => ?_
 refine gc_draw (by kernel_rfl) ?_
 refine gdv (qtf underlying27 (z := 0) (off := 0)) ?_
 refine gdv (qtl underlying2 (n := 1)) ?_
 refine gdv (qtf underlying27 (z := 0) (off := 1)) ?_
 refine gdv (qtl underlying24 (n := 1)) ?_
 refine gdv (qln (fun w M => lenV_rd e1)) ?_
 refine gdv (qt_assign rfl rfl) ?_
 refine gdv (qt_assign rfl rfl) ?_
 refine gd_nil ?_
 refine gk_then (hK8 _ _ ?_)
 refine gc_seq fun K9 hK9 => ?_
 have hob := mul_bd (x := c.ob) (a := 9) (b := d.ob) (by omega) (by omega) (by omega)
 refine gc_region ?_
 refine gv (qtf underlying27 (z := 0) (off := 0)) ?_
 refine gv (qtl underlying2 (n := 0)) ?_
 refine gm ?_
 refine gv (qt_mul rfl rfl rfl (by omega)) ?_
 refine gop fun K11 hK11 => ?_
 refine go_slice0 rfl rfl rfl underlying24 ?_
 intro B10
 refine hK11 _ _ ?_
 refine gop fun K13 hK13 => ?_
 refine go_slice0 rfl rfl rfl underlying24 ?_
 intro B12
 refine hK13 _ _ ?_
 refine gop fun K15 hK15 => ?_
 refine go_slice0 rfl rfl rfl underlying24 ?_
 intro B14
 refine hK15 _ _ ?_
 refine gop fun K17 hK17 => ?_
 refine go_sliceR0 rfl rfl rfl underlying25 ?_
 intro B16
 refine hK17 _ _ ?_
 refine gv (qt_build rfl rfl bt_Category) ?_
 refine gop fun K19 hK19 => ?_
 refine galC ?_
 intro B18
 refine hK19 _ _ ?_
 refine gop fun K20 hK20 => ?_
 refine gss 7 ?_
 refine hK20 _ _ ?_
 refine gnt (hK9 _ _ ?_)
 refine gc_seq fun K21 hK21 => ?_
 refine gc_sr fun K22 hK22 => ?_
 refine gas ?_
 refine gnt (hK22 _ _ ?_)
 refine gc_block ?_
 try simp only [sL]
 refine gc_loopT ([(0, _), (1, _), (2, _), (3, _), (4, _), (5, _), (6, _), (7, _)] : Env) (fun s : Nat × (Option Addr) × Nat => (fun (x : Nat) (a3 : Option Addr) (q3 : Nat) => (([(8, .int .i64 (x : Int))] : Env), ([(5, own1I (.slice a3 (tab2 (pdE c d) d.ob.toNat x 0).length q3) (tab2 (pdE c d) d.ob.toNat x 0)), (7, bxI B18 27 [.int .i64 (c.ob * d.ob), .slice (some ⟨B10, 0, none⟩) 0 0, .slice (some ⟨B12, 0, none⟩) 0 0, .slice a3 (tab2 (pdE c d) d.ob.toNat x 0).length q3, .slice (some ⟨B16, 0, none⟩) 0 0])] : List (Nat × Itm)), x ≤ c.ob.toNat, c.ob.toNat - x)) s.1 s.2.1 s.2.2) (0, _, _) (by repeat first | exact sub_nil | refine sub_cons rfl ?_) rfl (Nat.zero_le _) ?_
 rintro ⟨x, a3, q3⟩ hinv KL23 hKL23
 simp only [sU, sL] at hinv hKL23 ⊢
 have hx := hinv
 refine gc_seq fun K24 hK24 => ?_
 refine gc_sr fun K25 hK25 => ?_
 refine gm ?_
 refine gv (qtf underlying27 (z := 0) (off := 0)) ?_
 refine gv (qtl underlying2 (n := 0)) ?_
 refine gv (qt_lss rfl rfl rfl) ?_
 refine gnt (hK25 _ _ ?_)
 refine gc_cond rfl (fun hc0 => ?_) (fun hc0 => ?_)
 ·try simp only [sA] at hc0
  refine gc_skip ?_
  refine gk_then (hK24 _ _ ?_)
  refine gc_seq fun K26 hK26 => ?_
  refine gc_block ?_
  refine gc_sr fun K27 hK27 => ?_
  refine gas ?_
  refine gnt (hK27 _ _ ?_)
  refine gc_block ?_
  try simp only [sL]
  refine gc_loopT ([(0, _), (1, _), (2, _), (3, _), (4, _), (5, _), (6, _), (7, _), (8, _), (33, _)] : Env) (fun s : Nat × (Option Addr) × Nat => (fun (y : Nat) (a3 : Option Addr) (q3 : Nat) => (([(9, .int .i64 (y : Int))] : Env), ([(5, own1I (.slice a3 (tab2 (pdE c d) d.ob.toNat x y).length q3) (tab2 (pdE c d) d.ob.toNat x y)), (7, bxI B18 27 [.int .i64 (c.ob * d.ob), .slice (some ⟨B10, 0, none⟩) 0 0, .slice (some ⟨B12, 0, none⟩) 0 0, .slice a3 (tab2 (pdE c d) d.ob.toNat x y).length q3, .slice (some ⟨B16, 0, none⟩) 0 0])] : List (Nat × Itm)), y ≤ d.ob.toNat, d.ob.toNat - y)) s.1 s.2.1 s.2.2) (0, _, _) (by repeat first | exact sub_nil | refine sub_cons rfl ?_) rfl (Nat.zero_le _) ?_
  rintro ⟨y, a3, q3⟩ hinv KL28 hKL28
  simp only [sU, sL] at hinv hKL28 ⊢
  have hy := hinv
  have hl3 := tab2_len (pdE c d) d.ob.toNat x y
  have hg := grid_small (n := c.ob.toNat) (m := d.ob.toNat) (a := x) (b := y) (by omega) (by omega) (by omega) hy
  refine gc_seq fun K29 hK29 => ?_
  refine gc_sr fun K30 hK30 => ?_
  refine gm ?_
  refine gm ?_
  refine gv (qt_lss rfl rfl rfl) ?_
  refine gnt (hK30 _ _ ?_)
  refine gc_cond rfl (fun hc1 => ?_) (fun hc1 => ?_)
  ·try simp only [sA] at hc1
   refine gc_skip ?_
   refine gk_then (hK29 _ _ ?_)
   refine gc_seq fun K31 hK31 => ?_
   refine gc_block ?_
   have i1 := hS.idn (x := (x : Int)) (by omega) (by omega)
   have i2 := gS.idn (x := (y : Int)) (by omega) (by omega)
   have i3 := mul_bd (x := at0 c.e (x : Int)) (a := c.s.length) (b := d.s.length) ⟨i1.1, i1.2.1⟩ (by omega) (by omega)
   have i4 := i2.1; have i5 := i2.2.1
   try simp only [sL]
   refine ga_start _ (fun w M => mem_erase 5 (mem_erase 7 (M))) ?_
   refine gav 0 rfl (qtf underlying27 (z := 0) (off := 3)) ?_
   refine gav 2 rfl (qtf underlying27 (z := 0) (off := 3)) ?_
   refine gav 3 rfl (qtl underlying24 (n := 0)) ?_
   refine gav 4 rfl (qt_move rfl rfl) ?_
   refine gav 5 rfl (qti (fun w M => lenA_rd h3)) ?_
   refine gav 6 rfl (qtd (fun w M => mem_rd M h3)) ?_
   refine gav 7 rfl (qt_move rfl rfl) ?_
   refine gav 8 rfl (qt_mul rfl rfl rfl (by omega)) ?_
   refine gav 9 rfl (qtf underlying27 (z := 0) (off := 3)) ?_
   refine gav 10 rfl (qtl underlying24 (n := 1)) ?_
   refine gav 11 rfl (qt_move rfl rfl) ?_
   refine gav 12 rfl (qti (fun w M => lenA_rd e3)) ?_
   refine gav 13 rfl (qtd (fun w M => mem_rd M e3)) ?_
   refine gav 14 rfl (qt_add rfl rfl rfl (by omega)) ?_
   refine gat 1 15 (fun K32 hK32 => ?_) (fun K32 hK32 => ?_)
   ·refine gov (qtl underlying24 (n := 7)) ?_
    refine hK32 _ _ (fun w M => (ms0 5 7 8 M :)) ?_
    refine gao 15 fun K35 hK35 => ?_
    refine go_slice1 rfl rfl rfl rfl underlying24 ?_
    intro B34
    refine hK35 _ _ (fun w M => (ms0 5 7 8 M :)) ?_
    refine gao 16 fun K37 hK37 => ?_
    refine go_append (n := 5) (m := 8) rfl rfl rfl underlying24 rfl rfl rfl rfl (by omega) ?_
    intro va36 vc36
    refine hK37 _ _ (fun w M => (ms0 5 7 8 M :)) ?_
    refine gav 17 rfl (qtf underlying27 (z := 0) (off := 3)) ?_
    refine gao 18 fun K38 hK38 => ?_
    refine go_storeB (n := 7) rfl rfl rfl rfl (by kernel_rfl) rfl rfl rfl (by first | decide | simp) ?_
    refine hK38 _ _ (fun w M => (ms0 5 7 8 M :)) ?_
    refine ga_done (by kernel_rfl) ?_
    refine gk_block ?_
    refine gk_then (hK31 _ _ ?_)
    refine gc_region ?_
    refine gm ?_
    refine gv (qt_add rfl rfl rfl (by omega)) ?_
    refine gas ?_
    refine g_nil ?_
    rw [pdE_def]
    simp only [tab2_succ (φ := pdE c d) (m := d.ob.toNat) (a := x) (b := y) (by omega)]
    refine gk_then (gk_take 8 ?_)
    refine gk_sub ?hs_39 (hKL28 (y + 1, _, _) ?hi_39 ?hm_39)
    case hs_39 => repeat first | exact sub_nil | refine sub_cons rfl ?_
    case hi_39 => omega
    case hm_39 => omega
   refine go_slice1 rfl rfl rfl rfl underlying24 ?_
   intro B40
   refine hK32 _ _ (fun w M => (ms0 5 7 8 M :)) ?_
   refine gao 1 fun K42 hK42 => ?_
   refine gov (qtl underlying24 (n := 7)) ?_
   refine hK42 _ _ (fun w M => (ms0 5 7 8 M :)) ?_
   refine gao 16 fun K44 hK44 => ?_
   refine go_append (n := 5) (m := 8) rfl rfl rfl underlying24 rfl rfl rfl rfl (by omega) ?_
   intro va43 vc43
   refine hK44 _ _ (fun w M => (ms0 5 7 8 M :)) ?_
   refine gav 17 rfl (qtf underlying27 (z := 0) (off := 3)) ?_
   refine gao 18 fun K45 hK45 => ?_
   refine go_storeB (n := 7) rfl rfl rfl rfl (by kernel_rfl) rfl rfl rfl (by first | decide | simp) ?_
   refine hK45 _ _ (fun w M => (ms0 5 7 8 M :)) ?_
   refine ga_done (by kernel_rfl) ?_
   refine gk_block ?_
   refine gk_then (hK31 _ _ ?_)
   refine gc_region ?_
   refine gm ?_
   refine gv (qt_add rfl rfl rfl (by omega)) ?_
   refine gas ?_
   refine g_nil ?_
   rw [pdE_def]
   simp only [tab2_succ (φ := pdE c d) (m := d.ob.toNat) (a := x) (b := y) (by omega)]
   refine gk_then (gk_take 8 ?_)
   refine gk_sub ?hs_46 (hKL28 (y + 1, _, _) ?hi_46 ?hm_46)
   case hs_46 => repeat first | exact sub_nil | refine sub_cons rfl ?_
   case hi_46 => omega
   case hm_46 => omega
  try simp only [sA] at hc1
  refine gc_exit ?_
  refine gk_then_exit ?_
  refine gk_then_exit ?_
  refine gk_block_hit ?_
  refine gk_block ?_
  refine gk_then (hK26 _ _ ?_)
  refine gc_region ?_
  refine gm ?_
  refine gv (qt_add rfl rfl rfl (by omega)) ?_
  refine gas ?_
  refine g_nil ?_
  obtain rfl : y = d.ob.toNat := by omega
  rw [tab2_row]
  refine gk_then (gk_take 8 ?_)
  refine gk_sub ?hs_47 (hKL23 (x + 1, _, _) ?hi_47 ?hm_47)
  case hs_47 => repeat first | exact sub_nil | refine sub_cons rfl ?_
  case hi_47 => omega
  case hm_47 => omega
 try simp only [sA] at hc0
 refine gc_exit ?_
 refine gk_then_exit ?_
 refine gk_then_exit ?_
 refine gk_block_hit ?_
 refine gk_then (hK21 _ _ ?_)
 refine gc_seq fun K48 hK48 => ?_
 refine gc_seq fun K49 hK49 => ?_
 obtain rfl : x = c.ob.toNat := by omega
 refine gc_region ?_
 refine gas ?_
 refine gnt (hK49 _ _ ?_)
 refine gc_block ?_
 try simp only [sL]
 refine gc_loopT ([(0, _), (1, _), (2, _), (3, _), (4, _), (5, _), (6, _), (7, _), (8, _), (33, _)] : Env) (fun s : Nat × (Option Addr) × Nat × (Option Addr) × Nat × (Option Addr) × Nat × (List Value) => (fun (a : Nat) (a1 : Option Addr) (q1 : Nat) (a2 : Option Addr) (q2 : Nat) (a4 : Option Addr) (q4 : Nat) (us : List Value) => (([(10, .int .i64 (a : Int))] : Env), ([(3, own1I (.slice a1 (tab2 (pdS c d) d.s.length a 0).length q1) (tab2 (pdS c d) d.s.length a 0)), (4, own1I (.slice a2 (tab2 (pdT c d) d.s.length a 0).length q2) (tab2 (pdT c d) d.s.length a 0)), (6, own2U (.slice a4 (rows2 (pdR c d) d.s.length a 0).length q4) us (rows2 (pdR c d) d.s.length a 0)), (7, bxI B18 27 [.int .i64 (c.ob * d.ob), .slice a1 (tab2 (pdS c d) d.s.length a 0).length q1, .slice a2 (tab2 (pdT c d) d.s.length a 0).length q2, .slice a3 (tab2 (pdE c d) d.ob.toNat c.ob.toNat 0).length q3, .slice a4 (rows2 (pdR c d) d.s.length a 0).length q4])] : List (Nat × Itm)), a ≤ c.s.length, c.s.length - a)) s.1 s.2.1 s.2.2.1 s.2.2.2.1 s.2.2.2.2.1 s.2.2.2.2.2.1 s.2.2.2.2.2.2.1 s.2.2.2.2.2.2.2) (0, _, _, _, _, _, _, _) (by repeat first | exact sub_nil | refine sub_cons rfl ?_) rfl (Nat.zero_le _) ?_
 rintro ⟨a, a1, q1, a2, q2, a4, q4, us⟩ hinv KL50 hKL50
 simp only [sU, sL] at hinv hKL50 ⊢
 have ha := hinv
 refine gc_seq fun K51 hK51 => ?_
 refine gc_sr fun K52 hK52 => ?_
 refine gm ?_
 refine gv (qtf underlying27 (z := 0) (off := 1)) ?_
 refine gv (qtl underlying24 (n := 0)) ?_
 refine gv (qln (fun w M => lenV_rd h1)) ?_
 refine gv (qt_lss rfl rfl rfl) ?_
 refine gnt (hK52 _ _ ?_)
 refine gc_cond rfl (fun hc2 => ?_) (fun hc2 => ?_)
 ·try simp only [sA] at hc2
  refine gc_skip ?_
  refine gk_then (hK51 _ _ ?_)
  refine gc_seq fun K53 hK53 => ?_
  refine gc_block ?_
  refine gc_sr fun K54 hK54 => ?_
  refine gas ?_
  refine gnt (hK54 _ _ ?_)
  refine gc_block ?_
  try simp only [sL]
  refine gc_loopT ([(0, _), (1, _), (2, _), (3, _), (4, _), (5, _), (6, _), (7, _), (8, _), (10, _), (33, _), (63, _)] : Env) (fun s : Nat × (Option Addr) × Nat × (Option Addr) × Nat × (Option Addr) × Nat × (List Value) => (fun (b : Nat) (a1 : Option Addr) (q1 : Nat) (a2 : Option Addr) (q2 : Nat) (a4 : Option Addr) (q4 : Nat) (us : List Value) => (([(11, .int .i64 (b : Int))] : Env), ([(3, own1I (.slice a1 (tab2 (pdS c d) d.s.length a b).length q1) (tab2 (pdS c d) d.s.length a b)), (4, own1I (.slice a2 (tab2 (pdT c d) d.s.length a b).length q2) (tab2 (pdT c d) d.s.length a b)), (6, own2U (.slice a4 (rows2 (pdR c d) d.s.length a b).length q4) us (rows2 (pdR c d) d.s.length a b)), (7, bxI B18 27 [.int .i64 (c.ob * d.ob), .slice a1 (tab2 (pdS c d) d.s.length a b).length q1, .slice a2 (tab2 (pdT c d) d.s.length a b).length q2, .slice a3 (tab2 (pdE c d) d.ob.toNat c.ob.toNat 0).length q3, .slice a4 (rows2 (pdR c d) d.s.length a b).length q4])] : List (Nat × Itm)), b ≤ d.s.length, d.s.length - b)) s.1 s.2.1 s.2.2.1 s.2.2.2.1 s.2.2.2.2.1 s.2.2.2.2.2.1 s.2.2.2.2.2.2.1 s.2.2.2.2.2.2.2) (0, _, _, _, _, _, _, _) (by repeat first | exact sub_nil | refine sub_cons rfl ?_) rfl (Nat.zero_le _) ?_
  rintro ⟨b, a1, q1, a2, q2, a4, q4, us⟩ hinv KL55 hKL55
  simp only [sU, sL] at hinv hKL55 ⊢
  have hb := hinv
  have hl1 := tab2_len (pdS c d) d.s.length a b
  have hl2 := tab2_len (pdT c d) d.s.length a b
  have hl4 := rows2_len (pdR c d) d.s.length a b
  have hg := grid_small (n := c.s.length) (m := d.s.length) (a := a) (b := b) hn40 gn40 (by omega) hb
  refine gc_seq fun K56 hK56 => ?_
  refine gc_sr fun K57 hK57 => ?_
  refine gm ?_
  refine gv (qtf underlying27 (z := 0) (off := 1)) ?_
  refine gv (qtl underlying24 (n := 1)) ?_
  refine gv (qln (fun w M => lenV_rd e1)) ?_
  refine gv (qt_lss rfl rfl rfl) ?_
  refine gnt (hK57 _ _ ?_)
  refine gc_cond rfl (fun hc3 => ?_) (fun hc3 => ?_)
  ·try simp only [sA] at hc3
   refine gc_skip ?_
   refine gk_then (hK56 _ _ ?_)
   refine gc_seq fun K58 hK58 => ?_
   refine gc_block ?_
   refine gc_seq fun K59 hK59 => ?_
   have i1 := at_lt hS.sa (k := a) (by omega)
   have i2 := at_lt gS.sa (k := b) (by omega)
   have i3 := mul_bd (x := at0 c.s (a : Int)) (a := c.ob) (b := d.ob) i1 (by omega) (by omega)
   have j1 := at_lt hS.ta (k := a) (by omega)
   have j2 := at_lt gS.ta (k := b) (by omega)
   have j3 := mul_bd (x := at0 c.t (a : Int)) (a := c.ob) (b := d.ob) j1 (by omega) (by omega)
   try simp only [sL]
   refine ga_start _ (fun w M => mem_erase 3 (mem_erase 7 (M))) ?_
   refine gav 0 rfl (qtf underlying27 (z := 0) (off := 1)) ?_
   refine gav 2 rfl (qtf underlying27 (z := 0) (off := 1)) ?_
   refine gav 3 rfl (qtl underlying24 (n := 0)) ?_
   refine gav 4 rfl (qt_move rfl rfl) ?_
   refine gav 5 rfl (qti (fun w M => lenA_rd h1)) ?_
   refine gav 6 rfl (qtd (fun w M => mem_rd M h1)) ?_
   refine gav 7 rfl (qt_move rfl rfl) ?_
   refine gav 8 rfl (qt_mul rfl rfl rfl (by omega)) ?_
   refine gav 9 rfl (qtf underlying27 (z := 0) (off := 1)) ?_
   refine gav 10 rfl (qtl underlying24 (n := 1)) ?_
   refine gav 11 rfl (qt_move rfl rfl) ?_
   refine gav 12 rfl (qti (fun w M => lenA_rd e1)) ?_
   refine gav 13 rfl (qtd (fun w M => mem_rd M e1)) ?_
   refine gav 14 rfl (qt_add rfl rfl rfl (by omega)) ?_
   refine gat 1 15 (fun K60 hK60 => ?_) (fun K60 hK60 => ?_)
   ·refine gov (qtl underlying24 (n := 7)) ?_
    refine hK60 _ _ (fun w M => (ms0 3 7 8 M :)) ?_
    refine gao 15 fun K63 hK63 => ?_
    refine go_slice1 rfl rfl rfl rfl underlying24 ?_
    intro B62
    refine hK63 _ _ (fun w M => (ms0 3 7 8 M :)) ?_
    refine gao 16 fun K65 hK65 => ?_
    refine go_append (n := 3) (m := 8) rfl rfl rfl underlying24 rfl rfl rfl rfl (by omega) ?_
    intro va64 vc64
    refine hK65 _ _ (fun w M => (ms0 3 7 8 M :)) ?_
    refine gav 17 rfl (qtf underlying27 (z := 0) (off := 1)) ?_
    refine gao 18 fun K66 hK66 => ?_
    refine go_storeB (n := 7) rfl rfl rfl rfl (by kernel_rfl) rfl rfl rfl (by first | decide | simp) ?_
    refine hK66 _ _ (fun w M => (ms0 3 7 8 M :)) ?_
    refine ga_done (by kernel_rfl) ?_
    refine gk_then (hK59 _ _ ?_)
    refine gc_seq fun K67 hK67 => ?_
    try simp only [sL]
    refine ga_start _ (fun w M => mem_erase 4 (mem_erase 7 (M))) ?_
    refine gav 0 rfl (qtf underlying27 (z := 0) (off := 2)) ?_
    refine gav 2 rfl (qtf underlying27 (z := 0) (off := 2)) ?_
    refine gav 3 rfl (qtl underlying24 (n := 0)) ?_
    refine gav 4 rfl (qt_move rfl rfl) ?_
    refine gav 5 rfl (qti (fun w M => lenA_rd h2)) ?_
    refine gav 6 rfl (qtd (fun w M => mem_rd M h2)) ?_
    refine gav 7 rfl (qt_move rfl rfl) ?_
    refine gav 8 rfl (qt_mul rfl rfl rfl (by omega)) ?_
    refine gav 9 rfl (qtf underlying27 (z := 0) (off := 2)) ?_
    refine gav 10 rfl (qtl underlying24 (n := 1)) ?_
    refine gav 11 rfl (qt_move rfl rfl) ?_
    refine gav 12 rfl (qti (fun w M => lenA_rd e2)) ?_
    refine gav 13 rfl (qtd (fun w M => mem_rd M e2)) ?_
    refine gav 14 rfl (qt_add rfl rfl rfl (by omega)) ?_
    refine gat 1 15 (fun K68 hK68 => ?_) (fun K68 hK68 => ?_)
    ·refine gov (qtl underlying24 (n := 7)) ?_
     refine hK68 _ _ (fun w M => (ms0 4 7 9 M :)) ?_
     refine gao 15 fun K71 hK71 => ?_
     refine go_slice1 rfl rfl rfl rfl underlying24 ?_
     intro B70
     refine hK71 _ _ (fun w M => (ms0 4 7 9 M :)) ?_
     refine gao 16 fun K73 hK73 => ?_
     refine go_append (n := 4) (m := 9) rfl rfl rfl underlying24 rfl rfl rfl rfl (by omega) ?_
     intro va72 vc72
     refine hK73 _ _ (fun w M => (ms0 4 7 9 M :)) ?_
     refine gav 17 rfl (qtf underlying27 (z := 0) (off := 2)) ?_
     refine gao 18 fun K74 hK74 => ?_
     refine go_storeB (n := 7) rfl rfl rfl rfl (by kernel_rfl) rfl rfl rfl (by first | decide | simp) ?_
     refine hK74 _ _ (fun w M => (ms0 4 7 9 M :)) ?_
     refine ga_done (by kernel_rfl) ?_
     refine gk_then (hK67 _ _ ?_)
     refine gc_sr fun K75 hK75 => ?_
     refine gop fun K77 hK77 => ?_
     refine go_slice0 rfl rfl rfl underlying24 ?_
     intro B76
     refine hK77 _ _ ?_
     refine gas ?_
     refine gnt (hK75 _ _ ?_)
     refine gc_seq fun K78 hK78 => ?_
     refine gc_sr fun K79 hK79 => ?_
     refine gas ?_
     refine gnt (hK79 _ _ ?_)
     refine gc_block ?_
     try simp only [sL]
     refine gc_loopT ([(0, _), (1, _), (2, _), (3, _), (4, _), (5, _), (6, _), (7, _), (8, _), (10, _), (11, _), (33, _), (63, _), (70, _)] : Env) (fun s : Nat × (Option Addr) × Nat => (fun (f : Nat) (z : Option Addr) (p : Nat) => (([(12, .slice z (tab2 (fun f g => pdM c d a b f g) d.s.length f 0).length p), (13, .int .i64 (f : Int))] : Env), ([(10, own1I (.slice z (tab2 (fun f g => pdM c d a b f g) d.s.length f 0).length p) (tab2 (fun f g => pdM c d a b f g) d.s.length f 0))] : List (Nat × Itm)), f ≤ c.s.length, c.s.length - f)) s.1 s.2.1 s.2.2) (0, _, _) (by repeat first | exact sub_nil | refine sub_cons rfl ?_) rfl (Nat.zero_le _) ?_
     rintro ⟨f, z, p⟩ hinv KL80 hKL80
     simp only [sU, sL] at hinv hKL80 ⊢
     have hf := hinv
     refine gc_seq fun K81 hK81 => ?_
     refine gc_sr fun K82 hK82 => ?_
     refine gm ?_
     refine gv (qtf underlying27 (z := 0) (off := 1)) ?_
     refine gv (qtl underlying24 (n := 0)) ?_
     refine gv (qln (fun w M => lenV_rd h1)) ?_
     refine gv (qt_lss rfl rfl rfl) ?_
     refine gnt (hK82 _ _ ?_)
     refine gc_cond rfl (fun hc4 => ?_) (fun hc4 => ?_)
     ·try simp only [sA] at hc4
      refine gc_skip ?_
      refine gk_then (hK81 _ _ ?_)
      refine gc_seq fun K83 hK83 => ?_
      refine gc_block ?_
      refine gc_sr fun K84 hK84 => ?_
      refine gas ?_
      refine gnt (hK84 _ _ ?_)
      refine gc_block ?_
      try simp only [sL]
      refine gc_loopT ([(0, _), (1, _), (2, _), (3, _), (4, _), (5, _), (6, _), (7, _), (8, _), (10, _), (11, _), (13, _), (33, _), (63, _), (70, _), (114, _)] : Env) (fun s : Nat × (Option Addr) × Nat => (fun (g : Nat) (z : Option Addr) (p : Nat) => (([(12, .slice z (tab2 (fun f g => pdM c d a b f g) d.s.length f g).length p), (14, .int .i64 (g : Int))] : Env), ([(10, own1I (.slice z (tab2 (fun f g => pdM c d a b f g) d.s.length f g).length p) (tab2 (fun f g => pdM c d a b f g) d.s.length f g))] : List (Nat × Itm)), g ≤ d.s.length, d.s.length - g)) s.1 s.2.1 s.2.2) (0, _, _) (by repeat first | exact sub_nil | refine sub_cons rfl ?_) rfl (Nat.zero_le _) ?_
      rintro ⟨g, z, p⟩ hinv KL85 hKL85
      simp only [sU, sL] at hinv hKL85 ⊢
      have hg5 := hinv
      have hl5 := tab2_len (fun f g => pdM c d a b f g) d.s.length f g
      have hg6 := grid_small (n := c.s.length) (m := d.s.length) (a := f) (b := g) hn40 gn40 (by omega) hg5
      refine gc_seq fun K86 hK86 => ?_
      refine gc_sr fun K87 hK87 => ?_
      refine gm ?_
      refine gv (qtf underlying27 (z := 0) (off := 1)) ?_
      refine gv (qtl underlying24 (n := 1)) ?_
      refine gv (qln (fun w M => lenV_rd e1)) ?_
      refine gv (qt_lss rfl rfl rfl) ?_
      refine gnt (hK87 _ _ ?_)
      refine gc_cond rfl (fun hc5 => ?_) (fun hc5 => ?_)
      ·try simp only [sA] at hc5
       refine gc_skip ?_
       refine gk_then (hK86 _ _ ?_)
       refine gc_seq fun K88 hK88 => ?_
       refine gc_block ?_
       refine gc_sr fun K89 hK89 => ?_
       refine gas ?_
       refine gnt (hK89 _ _ ?_)
       refine gc_seq fun K90 hK90 => ?_
       refine gc_seq fun K91 hK91 => ?_
       have r1 := arrP hS (f := (a : Int)) (by omega) (by omega)
       have r2 := r1.fm; have r3 := r1.row
       have s1 := arrP gS (f := (b : Int)) (by omega) (by omega)
       have s2 := s1.fm; have s3 := s1.row
       have t1 := th_lt hS (f := a) (g := f) (by omega) (by omega)
       have t2 := th_lt gS (f := b) (g := g) (by omega) (by omega)
       refine gc_region ?_
       refine gv (qtf underlying27 (z := 0) (off := 4)) ?_
       refine gv (qtl underlying25 (n := 0)) ?_
       refine gm ?_
       refine gv (qti2 (fun w M => lenA_rd2 h4)) ?_
       refine g_load2 (.free rfl) rfl rfl rfl rfl underlying24 rfl h4 (by omega) (by omega) ?_
       intro ra92 rc92 hr92
       refine gm ?_
       refine gv (qti (fun w M => lenA_rd hr92)) ?_
       refine gv (qtd (fun w M => mem_rd M hr92)) ?_
       refine gv (qt_geq rfl rfl rfl) ?_
       refine g_splitv (.free rfl) rfl rfl (qt_move rfl rfl) (fun hs26_9 => ?_) (fun hs26_9 => ?_)
       ·try simp only [sA] at hs26_9
        refine gvh (qtf underlying27 (z := 0) (off := 4)) ?_
        refine gvh (qtl underlying25 (n := 1)) ?_
        refine gvh (qt_move rfl rfl) ?_
        refine gvh (qti2 (fun w M => lenA_rd2 e4)) ?_
        refine g_load2 (.held _ _ _ rfl rfl rfl) rfl rfl rfl rfl underlying24 rfl e4 (by omega) (by omega) ?_
        intro ra93 rc93 hr93
        refine gvh (qt_move rfl rfl) ?_
        refine gvh (qti (fun w M => lenA_rd hr93)) ?_
        refine gvh (qtd (fun w M => mem_rd M hr93)) ?_
        refine gvh (qt_geq rfl rfl rfl) ?_
        refine gv (qt_pick_t rfl rfl rfl) ?_
        refine gnt (hK91 _ _ ?_)
        refine gc_cond rfl (fun hc6 => ?_) (fun hc6 => ?_)
        ·try simp only [sA] at hc6
         have i3 := mul_bd (x := at0 (row2 c.m (a : Int)) (f : Int)) (a := c.s.length) (b := d.s.length) ⟨hs26_9, t1⟩ (by omega) (by omega)
         have t3 : at0 (row2 d.m (b : Int)) (g : Int) < (d.s.length : Int) := t2
         refine gc_draw (by kernel_rfl) ?_
         refine gdv (qtf underlying27 (z := 0) (off := 4)) ?_
         refine gdv (qtl underlying25 (n := 0)) ?_
         refine gdv (qt_move rfl rfl) ?_
         refine gdv (qti2 (fun w M => lenA_rd2 h4)) ?_
         refine gd_load2 (.free rfl) rfl rfl rfl rfl underlying24 rfl h4 (by omega) (by omega) ?_
         intro ra94 rc94 hr94
         refine gdv (qt_move rfl rfl) ?_
         refine gdv (qti (fun w M => lenA_rd hr94)) ?_
         refine gdv (qtd (fun w M => mem_rd M hr94)) ?_
         refine gdv (qt_move rfl rfl) ?_
         refine gdv (qt_mul rfl rfl rfl (by omega)) ?_
         refine gdv (qtf underlying27 (z := 0) (off := 4)) ?_
         refine gdv (qtl underlying25 (n := 1)) ?_
         refine gdv (qt_move rfl rfl) ?_
         refine gdv (qti2 (fun w M => lenA_rd2 e4)) ?_
         refine gd_load2 (.free rfl) rfl rfl rfl rfl underlying24 rfl e4 (by omega) (by omega) ?_
         intro ra95 rc95 hr95
         refine gdv (qt_move rfl rfl) ?_
         refine gdv (qti (fun w M => lenA_rd hr95)) ?_
         refine gdv (qtd (fun w M => mem_rd M hr95)) ?_
         refine gdv (qt_add rfl rfl rfl (by omega)) ?_
         refine gdv (qt_assign rfl rfl) ?_
         refine gd_nil ?_
         refine gk_then (hK90 _ _ ?_)
         refine gc_region ?_
         refine gm ?_
         refine gm ?_
         refine gop fun K97 hK97 => ?_
         refine go_slice1 rfl rfl rfl rfl underlying24 ?_
         intro B96
         refine hK97 _ _ ?_
         refine gop fun K99 hK99 => ?_
         refine go_append (n := 10) (m := 11) rfl rfl rfl underlying24 rfl rfl rfl rfl (by omega) ?_
         intro va98 vc98
         refine hK99 _ _ ?_
         refine gas ?_
         refine g_nil ?_
         refine gk_block ?_
         refine gk_then (hK88 _ _ ?_)
         refine gc_region ?_
         refine gm ?_
         refine gv (qt_add rfl rfl rfl (by omega)) ?_
         refine gas ?_
         refine g_nil ?_
         have hv : at0 (row2 c.m (a : Int)) (f : Int) * d.s.length + at0 (row2 d.m (b : Int)) (g : Int) = pdM c d a b f g := pdM_t hs26_9 (by assumption)
         rw [hv]
         simp only [tab2_succ (φ := fun f g => pdM c d a b f g) (m := d.s.length) (a := f) (b := g) (by omega)]
         refine gk_then (gk_take 11 ?_)
         refine gk_sub ?hs_100 (hKL85 (g + 1, _, _) ?hi_100 ?hm_100)
         case hs_100 => repeat first | exact sub_nil | refine sub_cons rfl ?_
         case hi_100 => omega
         case hm_100 => omega
        try simp only [sA] at hc6
        refine gc_skip ?_
        refine gk_then (hK90 _ _ ?_)
        refine gc_region ?_
        refine gm ?_
        refine gm ?_
        refine gop fun K102 hK102 => ?_
        refine go_slice1 rfl rfl rfl rfl underlying24 ?_
        intro B101
        refine hK102 _ _ ?_
        refine gop fun K104 hK104 => ?_
        refine go_append (n := 10) (m := 11) rfl rfl rfl underlying24 rfl rfl rfl rfl (by omega) ?_
        intro va103 vc103
        refine hK104 _ _ ?_
        refine gas ?_
        refine g_nil ?_
        refine gk_block ?_
        refine gk_then (hK88 _ _ ?_)
        refine gc_region ?_
        refine gm ?_
        refine gv (qt_add rfl rfl rfl (by omega)) ?_
        refine gas ?_
        refine g_nil ?_
        have hv : (-1 : Int) = pdM c d a b f g := pdM_f (fun hh => absurd hh.2 (by assumption))
        rw [hv]
        simp only [tab2_succ (φ := fun f g => pdM c d a b f g) (m := d.s.length) (a := f) (b := g) (by omega)]
        refine gk_then (gk_take 11 ?_)
        refine gk_sub ?hs_105 (hKL85 (g + 1, _, _) ?hi_105 ?hm_105)
        case hs_105 => repeat first | exact sub_nil | refine sub_cons rfl ?_
        case hi_105 => omega
        case hm_105 => omega
       try simp only [sA] at hs26_9
       refine gsk ?_
       refine gsk ?_
       refine gsk ?_
       refine gsk ?_
       refine gsk ?_
       refine gsk ?_
       refine gsk ?_
       refine gsk ?_
       refine gsk ?_
       refine gv (qt_pick_f rfl rfl rfl) ?_
       refine gnt (hK91 _ _ ?_)
       refine gc_cond_f rfl ?_
       refine gc_skip ?_
       refine gk_then (hK90 _ _ ?_)
       refine gc_region ?_
       refine gm ?_
       refine gm ?_
       refine gop fun K107 hK107 => ?_
       refine go_slice1 rfl rfl rfl rfl underlying24 ?_
       intro B106
       refine hK107 _ _ ?_
       refine gop fun K109 hK109 => ?_
       refine go_append (n := 10) (m := 11) rfl rfl rfl underlying24 rfl rfl rfl rfl (by omega) ?_
       intro va108 vc108
       refine hK109 _ _ ?_
       refine gas ?_
       refine g_nil ?_
       refine gk_block ?_
       refine gk_then (hK88 _ _ ?_)
       refine gc_region ?_
       refine gm ?_
       refine gv (qt_add rfl rfl rfl (by omega)) ?_
       refine gas ?_
       refine g_nil ?_
       have hv : (-1 : Int) = pdM c d a b f g := pdM_f (fun hh => hs26_9 hh.1)
       rw [hv]
       simp only [tab2_succ (φ := fun f g => pdM c d a b f g) (m := d.s.length) (a := f) (b := g) (by omega)]
       refine gk_then (gk_take 11 ?_)
       refine gk_sub ?hs_110 (hKL85 (g + 1, _, _) ?hi_110 ?hm_110)
       case hs_110 => repeat first | exact sub_nil | refine sub_cons rfl ?_
       case hi_110 => omega
       case hm_110 => omega
      try simp only [sA] at hc5
      refine gc_exit ?_
      refine gk_then_exit ?_
      refine gk_then_exit ?_
      refine gk_block_hit ?_
      refine gk_block ?_
      refine gk_then (hK83 _ _ ?_)
      refine gc_region ?_
      refine gm ?_
      refine gv (qt_add rfl rfl rfl (by omega)) ?_
      refine gas ?_
      refine g_nil ?_
      obtain rfl : g = d.s.length := by omega
      rw [tab2_row]
      refine gk_then (gk_take 11 ?_)
      refine gk_sub ?hs_111 (hKL80 (f + 1, _, _) ?hi_111 ?hm_111)
      case hs_111 => repeat first | exact sub_nil | refine sub_cons rfl ?_
      case hi_111 => omega
      case hm_111 => omega
     try simp only [sA] at hc4
     refine gc_exit ?_
     refine gk_then_exit ?_
     refine gk_then_exit ?_
     refine gk_block_hit ?_
     refine gk_then (hK78 _ _ ?_)
     refine gc_region ?_
     refine gv (qtf underlying27 (z := 0) (off := 4)) ?_
     refine gv (qtl underlying25 (n := 7)) ?_
     refine gm ?_
     refine gop fun K113 hK113 => ?_
     refine go_sliceR1 (m := 10) rfl rfl rfl rfl underlying25 rfl ?_
     intro B112
     refine hK113 _ _ ?_
     refine gop fun K115 hK115 => ?_
     refine go_appendRow (n := 6) (m := 10) (m' := 9) rfl rfl rfl underlying25 rfl rfl rfl rfl rfl (by omega) ?_
     intro va114 vc114
     refine hK115 _ _ ?_
     refine gv (qtf underlying27 (z := 0) (off := 4)) ?_
     refine gop fun K116 hK116 => ?_
     refine go_storeB (n := 7) rfl rfl rfl rfl (by kernel_rfl) rfl rfl rfl (by first | decide | simp) ?_
     refine hK116 _ _ ?_
     refine g_nil ?_
     refine gk_block ?_
     refine gk_then (hK58 _ _ ?_)
     refine gc_region ?_
     refine gm ?_
     refine gv (qt_add rfl rfl rfl (by omega)) ?_
     refine gas ?_
     refine g_nil ?_
     obtain rfl : f = c.s.length := by omega
     simp only [pdR_def, pdS_def, pdT_def, tab2_succ (φ := pdS c d) (m := d.s.length) (a := a) (b := b) (by omega), tab2_succ (φ := pdT c d) (m := d.s.length) (a := a) (b := b) (by omega), rows2_succ (ψ := pdR c d) (m := d.s.length) (a := a) (b := b) (by omega)]
     refine gk_then (gk_take 8 ?_)
     refine gk_sub ?hs_117 (hKL55 (b + 1, _, _, _, _, _, _, _) ?hi_117 ?hm_117)
     case hs_117 => repeat first | exact sub_nil | refine sub_cons rfl ?_
     case hi_117 => omega
     case hm_117 => omega
    refine go_slice1 rfl rfl rfl rfl underlying24 ?_
    intro B118
    refine hK68 _ _ (fun w M => (ms0 4 7 9 M :)) ?_
    refine gao 1 fun K120 hK120 => ?_
    refine gov (qtl underlying24 (n := 7)) ?_
    refine hK120 _ _ (fun w M => (ms0 4 7 9 M :)) ?_
    refine gao 16 fun K122 hK122 => ?_
    refine go_append (n := 4) (m := 9) rfl rfl rfl underlying24 rfl rfl rfl rfl (by omega) ?_
    intro va121 vc121
    refine hK122 _ _ (fun w M => (ms0 4 7 9 M :)) ?_
    refine gav 17 rfl (qtf underlying27 (z := 0) (off := 2)) ?_
    refine gao 18 fun K123 hK123 => ?_
    refine go_storeB (n := 7) rfl rfl rfl rfl (by kernel_rfl) rfl rfl rfl (by first | decide | simp) ?_
    refine hK123 _ _ (fun w M => (ms0 4 7 9 M :)) ?_
    refine ga_done (by kernel_rfl) ?_
    refine gk_then (hK67 _ _ ?_)
    refine gc_sr fun K124 hK124 => ?_
    refine gop fun K126 hK126 => ?_
    refine go_slice0 rfl rfl rfl underlying24 ?_
    intro B125
    refine hK126 _ _ ?_
    refine gas ?_
    refine gnt (hK124 _ _ ?_)
    refine gc_seq fun K127 hK127 => ?_
    refine gc_sr fun K128 hK128 => ?_
    refine gas ?_
    refine gnt (hK128 _ _ ?_)
    refine gc_block ?_
    try simp only [sL]
    refine gc_loopT ([(0, _), (1, _), (2, _), (3, _), (4, _), (5, _), (6, _), (7, _), (8, _), (10, _), (11, _), (33, _), (63, _), (70, _)] : Env) (fun s : Nat × (Option Addr) × Nat => (fun (f : Nat) (z : Option Addr) (p : Nat) => (([(12, .slice z (tab2 (fun f g => pdM c d a b f g) d.s.length f 0).length p), (13, .int .i64 (f : Int))] : Env), ([(10, own1I (.slice z (tab2 (fun f g => pdM c d a b f g) d.s.length f 0).length p) (tab2 (fun f g => pdM c d a b f g) d.s.length f 0))] : List (Nat × Itm)), f ≤ c.s.length, c.s.length - f)) s.1 s.2.1 s.2.2) (0, _, _) (by repeat first | exact sub_nil | refine sub_cons rfl ?_) rfl (Nat.zero_le _) ?_
    rintro ⟨f, z, p⟩ hinv KL129 hKL129
    simp only [sU, sL] at hinv hKL129 ⊢
    have hf := hinv
    refine gc_seq fun K130 hK130 => ?_
    refine gc_sr fun K131 hK131 => ?_
    refine gm ?_
    refine gv (qtf underlying27 (z := 0) (off := 1)) ?_
    refine gv (qtl underlying24 (n := 0)) ?_
    refine gv (qln (fun w M => lenV_rd h1)) ?_
    refine gv (qt_lss rfl rfl rfl) ?_
    refine gnt (hK131 _ _ ?_)
    refine gc_cond rfl (fun hc7 => ?_) (fun hc7 => ?_)
    ·try simp only [sA] at hc7
     refine gc_skip ?_
     refine gk_then (hK130 _ _ ?_)
     refine gc_seq fun K132 hK132 => ?_
     refine gc_block ?_
     refine gc_sr fun K133 hK133 => ?_
     refine gas ?_
     refine gnt (hK133 _ _ ?_)
     refine gc_block ?_
     try simp only [sL]
     refine gc_loopT ([(0, _), (1, _), (2, _), (3, _), (4, _), (5, _), (6, _), (7, _), (8, _), (10, _), (11, _), (13, _), (33, _), (63, _), (70, _), (114, _)] : Env) (fun s : Nat × (Option Addr) × Nat => (fun (g : Nat) (z : Option Addr) (p : Nat) => (([(12, .slice z (tab2 (fun f g => pdM c d a b f g) d.s.length f g).length p), (14, .int .i64 (g : Int))] : Env), ([(10, own1I (.slice z (tab2 (fun f g => pdM c d a b f g) d.s.length f g).length p) (tab2 (fun f g => pdM c d a b f g) d.s.length f g))] : List (Nat × Itm)), g ≤ d.s.length, d.s.length - g)) s.1 s.2.1 s.2.2) (0, _, _) (by repeat first | exact sub_nil | refine sub_cons rfl ?_) rfl (Nat.zero_le _) ?_
     rintro ⟨g, z, p⟩ hinv KL134 hKL134
     simp only [sU, sL] at hinv hKL134 ⊢
     have hg5 := hinv
     have hl5 := tab2_len (fun f g => pdM c d a b f g) d.s.length f g
     have hg6 := grid_small (n := c.s.length) (m := d.s.length) (a := f) (b := g) hn40 gn40 (by omega) hg5
     refine gc_seq fun K135 hK135 => ?_
     refine gc_sr fun K136 hK136 => ?_
     refine gm ?_
     refine gv (qtf underlying27 (z := 0) (off := 1)) ?_
     refine gv (qtl underlying24 (n := 1)) ?_
     refine gv (qln (fun w M => lenV_rd e1)) ?_
     refine gv (qt_lss rfl rfl rfl) ?_
     refine gnt (hK136 _ _ ?_)
     refine gc_cond rfl (fun hc8 => ?_) (fun hc8 => ?_)
     ·try simp only [sA] at hc8
      refine gc_skip ?_
      refine gk_then (hK135 _ _ ?_)
      refine gc_seq fun K137 hK137 => ?_
      refine gc_block ?_
      refine gc_sr fun K138 hK138 => ?_
      refine gas ?_
      refine gnt (hK138 _ _ ?_)
      refine gc_seq fun K139 hK139 => ?_
      refine gc_seq fun K140 hK140 => ?_
      have r1 := arrP hS (f := (a : Int)) (by omega) (by omega)
      have r2 := r1.fm; have r3 := r1.row
      have s1 := arrP gS (f := (b : Int)) (by omega) (by omega)
      have s2 := s1.fm; have s3 := s1.row
      have t1 := th_lt hS (f := a) (g := f) (by omega) (by omega)
      have t2 := th_lt gS (f := b) (g := g) (by omega) (by omega)
      refine gc_region ?_
      refine gv (qtf underlying27 (z := 0) (off := 4)) ?_
      refine gv (qtl underlying25 (n := 0)) ?_
      refine gm ?_
      refine gv (qti2 (fun w M => lenA_rd2 h4)) ?_
      refine g_load2 (.free rfl) rfl rfl rfl rfl underlying24 rfl h4 (by omega) (by omega) ?_
      intro ra141 rc141 hr141
      refine gm ?_
      refine gv (qti (fun w M => lenA_rd hr141)) ?_
      refine gv (qtd (fun w M => mem_rd M hr141)) ?_
      refine gv (qt_geq rfl rfl rfl) ?_
      refine g_splitv (.free rfl) rfl rfl (qt_move rfl rfl) (fun hs26_9 => ?_) (fun hs26_9 => ?_)
      ·try simp only [sA] at hs26_9
       refine gvh (qtf underlying27 (z := 0) (off := 4)) ?_
       refine gvh (qtl underlying25 (n := 1)) ?_
       refine gvh (qt_move rfl rfl) ?_
       refine gvh (qti2 (fun w M => lenA_rd2 e4)) ?_
       refine g_load2 (.held _ _ _ rfl rfl rfl) rfl rfl rfl rfl underlying24 rfl e4 (by omega) (by omega) ?_
       intro ra142 rc142 hr142
       refine gvh (qt_move rfl rfl) ?_
       refine gvh (qti (fun w M => lenA_rd hr142)) ?_
       refine gvh (qtd (fun w M => mem_rd M hr142)) ?_
       refine gvh (qt_geq rfl rfl rfl) ?_
       refine gv (qt_pick_t rfl rfl rfl) ?_
       refine gnt (hK140 _ _ ?_)
       refine gc_cond rfl (fun hc9 => ?_) (fun hc9 => ?_)
       ·try simp only [sA] at hc9
        have i3 := mul_bd (x := at0 (row2 c.m (a : Int)) (f : Int)) (a := c.s.length) (b := d.s.length) ⟨hs26_9, t1⟩ (by omega) (by omega)
        have t3 : at0 (row2 d.m (b : Int)) (g : Int) < (d.s.length : Int) := t2
        refine gc_draw (by kernel_rfl) ?_
        refine gdv (qtf underlying27 (z := 0) (off := 4)) ?_
        refine gdv (qtl underlying25 (n := 0)) ?_
        refine gdv (qt_move rfl rfl) ?_
        refine gdv (qti2 (fun w M => lenA_rd2 h4)) ?_
        refine gd_load2 (.free rfl) rfl rfl rfl rfl underlying24 rfl h4 (by omega) (by omega) ?_
        intro ra143 rc143 hr143
        refine gdv (qt_move rfl rfl) ?_
        refine gdv (qti (fun w M => lenA_rd hr143)) ?_
        refine gdv (qtd (fun w M => mem_rd M hr143)) ?_
        refine gdv (qt_move rfl rfl) ?_
        refine gdv (qt_mul rfl rfl rfl (by omega)) ?_
        refine gdv (qtf underlying27 (z := 0) (off := 4)) ?_
        refine gdv (qtl underlying25 (n := 1)) ?_
        refine gdv (qt_move rfl rfl) ?_
        refine gdv (qti2 (fun w M => lenA_rd2 e4)) ?_
        refine gd_load2 (.free rfl) rfl rfl rfl rfl underlying24 rfl e4 (by omega) (by omega) ?_
        intro ra144 rc144 hr144
        refine gdv (qt_move rfl rfl) ?_
        refine gdv (qti (fun w M => lenA_rd hr144)) ?_
        refine gdv (qtd (fun w M => mem_rd M hr144)) ?_
        refine gdv (qt_add rfl rfl rfl (by omega)) ?_
        refine gdv (qt_assign rfl rfl) ?_
        refine gd_nil ?_
        refine gk_then (hK139 _ _ ?_)
        refine gc_region ?_
        refine gm ?_
        refine gm ?_
        refine gop fun K146 hK146 => ?_
        refine go_slice1 rfl rfl rfl rfl underlying24 ?_
        intro B145
        refine hK146 _ _ ?_
        refine gop fun K148 hK148 => ?_
        refine go_append (n := 10) (m := 11) rfl rfl rfl underlying24 rfl rfl rfl rfl (by omega) ?_
        intro va147 vc147
        refine hK148 _ _ ?_
        refine gas ?_
        refine g_nil ?_
        refine gk_block ?_
        refine gk_then (hK137 _ _ ?_)
        refine gc_region ?_
        refine gm ?_
        refine gv (qt_add rfl rfl rfl (by omega)) ?_
        refine gas ?_
        refine g_nil ?_
        have hv : at0 (row2 c.m (a : Int)) (f : Int) * d.s.length + at0 (row2 d.m (b : Int)) (g : Int) = pdM c d a b f g := pdM_t hs26_9 (by assumption)
        rw [hv]
        simp only [tab2_succ (φ := fun f g => pdM c d a b f g) (m := d.s.length) (a := f) (b := g) (by omega)]
        refine gk_then (gk_take 11 ?_)
        refine gk_sub ?hs_149 (hKL134 (g + 1, _, _) ?hi_149 ?hm_149)
        case hs_149 => repeat first | exact sub_nil | refine sub_cons rfl ?_
        case hi_149 => omega
        case hm_149 => omega
       try simp only [sA] at hc9
       refine gc_skip ?_
       refine gk_then (hK139 _ _ ?_)
       refine gc_region ?_
       refine gm ?_
       refine gm ?_
       refine gop fun K151 hK151 => ?_
       refine go_slice1 rfl rfl rfl rfl underlying24 ?_
       intro B150
       refine hK151 _ _ ?_
       refine gop fun K153 hK153 => ?_
       refine go_append (n := 10) (m := 11) rfl rfl rfl underlying24 rfl rfl rfl rfl (by omega) ?_
       intro va152 vc152
       refine hK153 _ _ ?_
       refine gas ?_
       refine g_nil ?_
       refine gk_block ?_
       refine gk_then (hK137 _ _ ?_)
       refine gc_region ?_
       refine gm ?_
       refine gv (qt_add rfl rfl rfl (by omega)) ?_
       refine gas ?_
       refine g_nil ?_
       have hv : (-1 : Int) = pdM c d a b f g := pdM_f (fun hh => absurd hh.2 (by assumption))
       rw [hv]
       simp only [tab2_succ (φ := fun f g => pdM c d a b f g) (m := d.s.length) (a := f) (b := g) (by omega)]
       refine gk_then (gk_take 11 ?_)
       refine gk_sub ?hs_154 (hKL134 (g + 1, _, _) ?hi_154 ?hm_154)
       case hs_154 => repeat first | exact sub_nil | refine sub_cons rfl ?_
       case hi_154 => omega
       case hm_154 => omega
      try simp only [sA] at hs26_9
      refine gsk ?_
      refine gsk ?_
      refine gsk ?_
      refine gsk ?_
      refine gsk ?_
      refine gsk ?_
      refine gsk ?_
      refine gsk ?_
      refine gsk ?_
      refine gv (qt_pick_f rfl rfl rfl) ?_
      refine gnt (hK140 _ _ ?_)
      refine gc_cond_f rfl ?_
      refine gc_skip ?_
      refine gk_then (hK139 _ _ ?_)
      refine gc_region ?_
      refine gm ?_
      refine gm ?_
      refine gop fun K156 hK156 => ?_
      refine go_slice1 rfl rfl rfl rfl underlying24 ?_
      intro B155
      refine hK156 _ _ ?_
      refine gop fun K158 hK158 => ?_
      refine go_append (n := 10) (m := 11) rfl rfl rfl underlying24 rfl rfl rfl rfl (by omega) ?_
      intro va157 vc157
      refine hK158 _ _ ?_
      refine gas ?_
      refine g_nil ?_
      refine gk_block ?_
      refine gk_then (hK137 _ _ ?_)
      refine gc_region ?_
      refine gm ?_
      refine gv (qt_add rfl rfl rfl (by omega)) ?_
      refine gas ?_
      refine g_nil ?_
      have hv : (-1 : Int) = pdM c d a b f g := pdM_f (fun hh => hs26_9 hh.1)
      rw [hv]
      simp only [tab2_succ (φ := fun f g => pdM c d a b f g) (m := d.s.length) (a := f) (b := g) (by omega)]
      refine gk_then (gk_take 11 ?_)
      refine gk_sub ?hs_159 (hKL134 (g + 1, _, _) ?hi_159 ?hm_159)
      case hs_159 => repeat first | exact sub_nil | refine sub_cons rfl ?_
      case hi_159 => omega
      case hm_159 => omega
     try simp only [sA] at hc8
     refine gc_exit ?_
     refine gk_then_exit ?_
     refine gk_then_exit ?_
     refine gk_block_hit ?_
     refine gk_block ?_
     refine gk_then (hK132 _ _ ?_)
     refine gc_region ?_
     refine gm ?_
     refine gv (qt_add rfl rfl rfl (by omega)) ?_
     refine gas ?_
     refine g_nil ?_
     obtain rfl : g = d.s.length := by omega
     rw [tab2_row]
     refine gk_then (gk_take 11 ?_)
     refine gk_sub ?hs_160 (hKL129 (f + 1, _, _) ?hi_160 ?hm_160)
     case hs_160 => repeat first | exact sub_nil | refine sub_cons rfl ?_
     case hi_160 => omega
     case hm_160 => omega
    try simp only [sA] at hc7
    refine gc_exit ?_
    refine gk_then_exit ?_
    refine gk_then_exit ?_
    refine gk_block_hit ?_
    refine gk_then (hK127 _ _ ?_)
    refine gc_region ?_
    refine gv (qtf underlying27 (z := 0) (off := 4)) ?_
    refine gv (qtl underlying25 (n := 7)) ?_
    refine gm ?_
    refine gop fun K162 hK162 => ?_
    refine go_sliceR1 (m := 10) rfl rfl rfl rfl underlying25 rfl ?_
    intro B161
    refine hK162 _ _ ?_
    refine gop fun K164 hK164 => ?_
    refine go_appendRow (n := 6) (m := 10) (m' := 9) rfl rfl rfl underlying25 rfl rfl rfl rfl rfl (by omega) ?_
    intro va163 vc163
    refine hK164 _ _ ?_
    refine gv (qtf underlying27 (z := 0) (off := 4)) ?_
    refine gop fun K165 hK165 => ?_
    refine go_storeB (n := 7) rfl rfl rfl rfl (by kernel_rfl) rfl rfl rfl (by first | decide | simp) ?_
    refine hK165 _ _ ?_
    refine g_nil ?_
    refine gk_block ?_
    refine gk_then (hK58 _ _ ?_)
    refine gc_region ?_
    refine gm ?_
    refine gv (qt_add rfl rfl rfl (by omega)) ?_
    refine gas ?_
    refine g_nil ?_
    obtain rfl : f = c.s.length := by omega
    simp only [pdR_def, pdS_def, pdT_def, tab2_succ (φ := pdS c d) (m := d.s.length) (a := a) (b := b) (by omega), tab2_succ (φ := pdT c d) (m := d.s.length) (a := a) (b := b) (by omega), rows2_succ (ψ := pdR c d) (m := d.s.length) (a := a) (b := b) (by omega)]
    refine gk_then (gk_take 8 ?_)
    refine gk_sub ?hs_166 (hKL55 (b + 1, _, _, _, _, _, _, _) ?hi_166 ?hm_166)
    case hs_166 => repeat first | exact sub_nil | refine sub_cons rfl ?_
    case hi_166 => omega
    case hm_166 => omega
   refine go_slice1 rfl rfl rfl rfl underlying24 ?_
   intro B167
   refine hK60 _ _ (fun w M => (ms0 3 7 8 M :)) ?_
   refine gao 1 fun K169 hK169 => ?_
   refine gov (qtl underlying24 (n := 7)) ?_
   refine hK169 _ _ (fun w M => (ms0 3 7 8 M :)) ?_
   refine gao 16 fun K171 hK171 => ?_
   refine go_append (n := 3) (m := 8) rfl rfl rfl underlying24 rfl rfl rfl rfl (by omega) ?_
   intro va170 vc170
   refine hK171 _ _ (fun w M => (ms0 3 7 8 M :)) ?_
   refine gav 17 rfl (qtf underlying27 (z := 0) (off := 1)) ?_
   refine gao 18 fun K172 hK172 => ?_
   refine go_storeB (n := 7) rfl rfl rfl rfl (by kernel_rfl) rfl rfl rfl (by first | decide | simp) ?_
   refine hK172 _ _ (fun w M => (ms0 3 7 8 M :)) ?_
   refine ga_done (by kernel_rfl) ?_
   refine gk_then (hK59 _ _ ?_)
   refine gc_seq fun K173 hK173 => ?_
   try simp only [sL]
   refine ga_start _ (fun w M => mem_erase 4 (mem_erase 7 (M))) ?_
   refine gav 0 rfl (qtf underlying27 (z := 0) (off := 2)) ?_
   refine gav 2 rfl (qtf underlying27 (z := 0) (off := 2)) ?_
   refine gav 3 rfl (qtl underlying24 (n := 0)) ?_
   refine gav 4 rfl (qt_move rfl rfl) ?_
   refine gav 5 rfl (qti (fun w M => lenA_rd h2)) ?_
   refine gav 6 rfl (qtd (fun w M => mem_rd M h2)) ?_
   refine gav 7 rfl (qt_move rfl rfl) ?_
   refine gav 8 rfl (qt_mul rfl rfl rfl (by omega)) ?_
   refine gav 9 rfl (qtf underlying27 (z := 0) (off := 2)) ?_
   refine gav 10 rfl (qtl underlying24 (n := 1)) ?_
   refine gav 11 rfl (qt_move rfl rfl) ?_
   refine gav 12 rfl (qti (fun w M => lenA_rd e2)) ?_
   refine gav 13 rfl (qtd (fun w M => mem_rd M e2)) ?_
   refine gav 14 rfl (qt_add rfl rfl rfl (by omega)) ?_
   refine gat 1 15 (fun K174 hK174 => ?_) (fun K174 hK174 => ?_)
   ·refine gov (qtl underlying24 (n := 7)) ?_
    refine hK174 _ _ (fun w M => (ms0 4 7 9 M :)) ?_
    refine gao 15 fun K177 hK177 => ?_
    refine go_slice1 rfl rfl rfl rfl underlying24 ?_
    intro B176
    refine hK177 _ _ (fun w M => (ms0 4 7 9 M :)) ?_
    refine gao 16 fun K179 hK179 => ?_
    refine go_append (n := 4) (m := 9) rfl rfl rfl underlying24 rfl rfl rfl rfl (by omega) ?_
    intro va178 vc178
    refine hK179 _ _ (fun w M => (ms0 4 7 9 M :)) ?_
    refine gav 17 rfl (qtf underlying27 (z := 0) (off := 2)) ?_
    refine gao 18 fun K180 hK180 => ?_
    refine go_storeB (n := 7) rfl rfl rfl rfl (by kernel_rfl) rfl rfl rfl (by first | decide | simp) ?_
    refine hK180 _ _ (fun w M => (ms0 4 7 9 M :)) ?_
    refine ga_done (by kernel_rfl) ?_
    refine gk_then (hK173 _ _ ?_)
    refine gc_sr fun K181 hK181 => ?_
    refine gop fun K183 hK183 => ?_
    refine go_slice0 rfl rfl rfl underlying24 ?_
    intro B182
    refine hK183 _ _ ?_
    refine gas ?_
    refine gnt (hK181 _ _ ?_)
    refine gc_seq fun K184 hK184 => ?_
    refine gc_sr fun K185 hK185 => ?_
    refine gas ?_
    refine gnt (hK185 _ _ ?_)
    refine gc_block ?_
    try simp only [sL]
    refine gc_loopT ([(0, _), (1, _), (2, _), (3, _), (4, _), (5, _), (6, _), (7, _), (8, _), (10, _), (11, _), (33, _), (63, _), (70, _)] : Env) (fun s : Nat × (Option Addr) × Nat => (fun (f : Nat) (z : Option Addr) (p : Nat) => (([(12, .slice z (tab2 (fun f g => pdM c d a b f g) d.s.length f 0).length p), (13, .int .i64 (f : Int))] : Env), ([(10, own1I (.slice z (tab2 (fun f g => pdM c d a b f g) d.s.length f 0).length p) (tab2 (fun f g => pdM c d a b f g) d.s.length f 0))] : List (Nat × Itm)), f ≤ c.s.length, c.s.length - f)) s.1 s.2.1 s.2.2) (0, _, _) (by repeat first | exact sub_nil | refine sub_cons rfl ?_) rfl (Nat.zero_le _) ?_
    rintro ⟨f, z, p⟩ hinv KL186 hKL186
    simp only [sU, sL] at hinv hKL186 ⊢
    have hf := hinv
    refine gc_seq fun K187 hK187 => ?_
    refine gc_sr fun K188 hK188 => ?_
    refine gm ?_
    refine gv (qtf underlying27 (z := 0) (off := 1)) ?_
    refine gv (qtl underlying24 (n := 0)) ?_
    refine gv (qln (fun w M => lenV_rd h1)) ?_
    refine gv (qt_lss rfl rfl rfl) ?_
    refine gnt (hK188 _ _ ?_)
    refine gc_cond rfl (fun hc10 => ?_) (fun hc10 => ?_)
    ·try simp only [sA] at hc10
     refine gc_skip ?_
     refine gk_then (hK187 _ _ ?_)
     refine gc_seq fun K189 hK189 => ?_
     refine gc_block ?_
     refine gc_sr fun K190 hK190 => ?_
     refine gas ?_
     refine gnt (hK190 _ _ ?_)
     refine gc_block ?_
     try simp only [sL]
     refine gc_loopT ([(0, _), (1, _), (2, _), (3, _), (4, _), (5, _), (6, _), (7, _), (8, _), (10, _), (11, _), (13, _), (33, _), (63, _), (70, _), (114, _)] : Env) (fun s : Nat × (Option Addr) × Nat => (fun (g : Nat) (z : Option Addr) (p : Nat) => (([(12, .slice z (tab2 (fun f g => pdM c d a b f g) d.s.length f g).length p), (14, .int .i64 (g : Int))] : Env), ([(10, own1I (.slice z (tab2 (fun f g => pdM c d a b f g) d.s.length f g).length p) (tab2 (fun f g => pdM c d a b f g) d.s.length f g))] : List (Nat × Itm)), g ≤ d.s.length, d.s.length - g)) s.1 s.2.1 s.2.2) (0, _, _) (by repeat first | exact sub_nil | refine sub_cons rfl ?_) rfl (Nat.zero_le _) ?_
     rintro ⟨g, z, p⟩ hinv KL191 hKL191
     simp only [sU, sL] at hinv hKL191 ⊢
     have hg5 := hinv
     have hl5 := tab2_len (fun f g => pdM c d a b f g) d.s.length f g
     have hg6 := grid_small (n := c.s.length) (m := d.s.length) (a := f) (b := g) hn40 gn40 (by omega) hg5
     refine gc_seq fun K192 hK192 => ?_
     refine gc_sr fun K193 hK193 => ?_
     refine gm ?_
     refine gv (qtf underlying27 (z := 0) (off := 1)) ?_
     refine gv (qtl underlying24 (n := 1)) ?_
     refine gv (qln (fun w M => lenV_rd e1)) ?_
     refine gv (qt_lss rfl rfl rfl) ?_
     refine gnt (hK193 _ _ ?_)
     refine gc_cond rfl (fun hc11 => ?_) (fun hc11 => ?_)
     ·try simp only [sA] at hc11
      refine gc_skip ?_
      refine gk_then (hK192 _ _ ?_)
      refine gc_seq fun K194 hK194 => ?_
      refine gc_block ?_
      refine gc_sr fun K195 hK195 => ?_
      refine gas ?_
      refine gnt (hK195 _ _ ?_)
      refine gc_seq fun K196 hK196 => ?_
      refine gc_seq fun K197 hK197 => ?_
      have r1 := arrP hS (f := (a : Int)) (by omega) (by omega)
      have r2 := r1.fm; have r3 := r1.row
      have s1 := arrP gS (f := (b : Int)) (by omega) (by omega)
      have s2 := s1.fm; have s3 := s1.row
      have t1 := th_lt hS (f := a) (g := f) (by omega) (by omega)
      have t2 := th_lt gS (f := b) (g := g) (by omega) (by omega)
      refine gc_region ?_
      refine gv (qtf underlying27 (z := 0) (off := 4)) ?_
      refine gv (qtl underlying25 (n := 0)) ?_
      refine gm ?_
      refine gv (qti2 (fun w M => lenA_rd2 h4)) ?_
      refine g_load2 (.free rfl) rfl rfl rfl rfl underlying24 rfl h4 (by omega) (by omega) ?_
      intro ra198 rc198 hr198
      refine gm ?_
      refine gv (qti (fun w M => lenA_rd hr198)) ?_
      refine gv (qtd (fun w M => mem_rd M hr198)) ?_
      refine gv (qt_geq rfl rfl rfl) ?_
      refine g_splitv (.free rfl) rfl rfl (qt_move rfl rfl) (fun hs26_9 => ?_) (fun hs26_9 => ?_)
      ·try simp only [sA] at hs26_9
       refine gvh (qtf underlying27 (z := 0) (off := 4)) ?_
       refine gvh (qtl underlying25 (n := 1)) ?_
       refine gvh (qt_move rfl rfl) ?_
       refine gvh (qti2 (fun w M => lenA_rd2 e4)) ?_
       refine g_load2 (.held _ _ _ rfl rfl rfl) rfl rfl rfl rfl underlying24 rfl e4 (by omega) (by omega) ?_
       intro ra199 rc199 hr199
       refine gvh (qt_move rfl rfl) ?_
       refine gvh (qti (fun w M => lenA_rd hr199)) ?_
       refine gvh (qtd (fun w M => mem_rd M hr199)) ?_
       refine gvh (qt_geq rfl rfl rfl) ?_
       refine gv (qt_pick_t rfl rfl rfl) ?_
       refine gnt (hK197 _ _ ?_)
       refine gc_cond rfl (fun hc12 => ?_) (fun hc12 => ?_)
       ·try simp only [sA] at hc12
        have i3 := mul_bd (x := at0 (row2 c.m (a : Int)) (f : Int)) (a := c.s.length) (b := d.s.length) ⟨hs26_9, t1⟩ (by omega) (by omega)
        have t3 : at0 (row2 d.m (b : Int)) (g : Int) < (d.s.length : Int) := t2
        refine gc_draw (by kernel_rfl) ?_
        refine gdv (qtf underlying27 (z := 0) (off := 4)) ?_
        refine gdv (qtl underlying25 (n := 0)) ?_
        refine gdv (qt_move rfl rfl) ?_
        refine gdv (qti2 (fun w M => lenA_rd2 h4)) ?_
        refine gd_load2 (.free rfl) rfl rfl rfl rfl underlying24 rfl h4 (by omega) (by omega) ?_
        intro ra200 rc200 hr200
        refine gdv (qt_move rfl rfl) ?_
        refine gdv (qti (fun w M => lenA_rd hr200)) ?_
        refine gdv (qtd (fun w M => mem_rd M hr200)) ?_
        refine gdv (qt_move rfl rfl) ?_
        refine gdv (qt_mul rfl rfl rfl (by omega)) ?_
        refine gdv (qtf underlying27 (z := 0) (off := 4)) ?_
        refine gdv (qtl underlying25 (n := 1)) ?_
        refine gdv (qt_move rfl rfl) ?_
        refine gdv (qti2 (fun w M => lenA_rd2 e4)) ?_
        refine gd_load2 (.free rfl) rfl rfl rfl rfl underlying24 rfl e4 (by omega) (by omega) ?_
        intro ra201 rc201 hr201
        refine gdv (qt_move rfl rfl) ?_
        refine gdv (qti (fun w M => lenA_rd hr201)) ?_
        refine gdv (qtd (fun w M => mem_rd M hr201)) ?_
        refine gdv (qt_add rfl rfl rfl (by omega)) ?_
        refine gdv (qt_assign rfl rfl) ?_
        refine gd_nil ?_
        refine gk_then (hK196 _ _ ?_)
        refine gc_region ?_
        refine gm ?_
        refine gm ?_
        refine gop fun K203 hK203 => ?_
        refine go_slice1 rfl rfl rfl rfl underlying24 ?_
        intro B202
        refine hK203 _ _ ?_
        refine gop fun K205 hK205 => ?_
        refine go_append (n := 10) (m := 11) rfl rfl rfl underlying24 rfl rfl rfl rfl (by omega) ?_
        intro va204 vc204
        refine hK205 _ _ ?_
        refine gas ?_
        refine g_nil ?_
        refine gk_block ?_
        refine gk_then (hK194 _ _ ?_)
        refine gc_region ?_
        refine gm ?_
        refine gv (qt_add rfl rfl rfl (by omega)) ?_
        refine gas ?_
        refine g_nil ?_
        have hv : at0 (row2 c.m (a : Int)) (f : Int) * d.s.length + at0 (row2 d.m (b : Int)) (g : Int) = pdM c d a b f g := pdM_t hs26_9 (by assumption)
        rw [hv]
        simp only [tab2_succ (φ := fun f g => pdM c d a b f g) (m := d.s.length) (a := f) (b := g) (by omega)]
        refine gk_then (gk_take 11 ?_)
        refine gk_sub ?hs_206 (hKL191 (g + 1, _, _) ?hi_206 ?hm_206)
        case hs_206 => repeat first | exact sub_nil | refine sub_cons rfl ?_
        case hi_206 => omega
        case hm_206 => omega
       try simp only [sA] at hc12
       refine gc_skip ?_
       refine gk_then (hK196 _ _ ?_)
       refine gc_region ?_
       refine gm ?_
       refine gm ?_
       refine gop fun K208 hK208 => ?_
       refine go_slice1 rfl rfl rfl rfl underlying24 ?_
       intro B207
       refine hK208 _ _ ?_
       refine gop fun K210 hK210 => ?_
       refine go_append (n := 10) (m := 11) rfl rfl rfl underlying24 rfl rfl rfl rfl (by omega) ?_
       intro va209 vc209
       refine hK210 _ _ ?_
       refine gas ?_
       refine g_nil ?_
       refine gk_block ?_
       refine gk_then (hK194 _ _ ?_)
       refine gc_region ?_
       refine gm ?_
       refine gv (qt_add rfl rfl rfl (by omega)) ?_
       refine gas ?_
       refine g_nil ?_
       have hv : (-1 : Int) = pdM c d a b f g := pdM_f (fun hh => absurd hh.2 (by assumption))
       rw [hv]
       simp only [tab2_succ (φ := fun f g => pdM c d a b f g) (m := d.s.length) (a := f) (b := g) (by omega)]
       refine gk_then (gk_take 11 ?_)
       refine gk_sub ?hs_211 (hKL191 (g + 1, _, _) ?hi_211 ?hm_211)
       case hs_211 => repeat first | exact sub_nil | refine sub_cons rfl ?_
       case hi_211 => omega
       case hm_211 => omega
      try simp only [sA] at hs26_9
      refine gsk ?_
      refine gsk ?_
      refine gsk ?_
      refine gsk ?_
      refine gsk ?_
      refine gsk ?_
      refine gsk ?_
      refine gsk ?_
      refine gsk ?_
      refine gv (qt_pick_f rfl rfl rfl) ?_
      refine gnt (hK197 _ _ ?_)
      refine gc_cond_f rfl ?_
      refine gc_skip ?_
      refine gk_then (hK196 _ _ ?_)
      refine gc_region ?_
      refine gm ?_
      refine gm ?_
      refine gop fun K213 hK213 => ?_
      refine go_slice1 rfl rfl rfl rfl underlying24 ?_
      intro B212
      refine hK213 _ _ ?_
      refine gop fun K215 hK215 => ?_
      refine go_append (n := 10) (m := 11) rfl rfl rfl underlying24 rfl rfl rfl rfl (by omega) ?_
      intro va214 vc214
      refine hK215 _ _ ?_
      refine gas ?_
      refine g_nil ?_
      refine gk_block ?_
      refine gk_then (hK194 _ _ ?_)
      refine gc_region ?_
      refine gm ?_
      refine gv (qt_add rfl rfl rfl (by omega)) ?_
      refine gas ?_
      refine g_nil ?_
      have hv : (-1 : Int) = pdM c d a b f g := pdM_f (fun hh => hs26_9 hh.1)
      rw [hv]
      simp only [tab2_succ (φ := fun f g => pdM c d a b f g) (m := d.s.length) (a := f) (b := g) (by omega)]
      refine gk_then (gk_take 11 ?_)
      refine gk_sub ?hs_216 (hKL191 (g + 1, _, _) ?hi_216 ?hm_216)
      case hs_216 => repeat first | exact sub_nil | refine sub_cons rfl ?_
      case hi_216 => omega
      case hm_216 => omega
     try simp only [sA] at hc11
     refine gc_exit ?_
     refine gk_then_exit ?_
     refine gk_then_exit ?_
     refine gk_block_hit ?_
     refine gk_block ?_
     refine gk_then (hK189 _ _ ?_)
     refine gc_region ?_
     refine gm ?_
     refine gv (qt_add rfl rfl rfl (by omega)) ?_
     refine gas ?_
     refine g_nil ?_
     obtain rfl : g = d.s.length := by omega
     rw [tab2_row]
     refine gk_then (gk_take 11 ?_)
     refine gk_sub ?hs_217 (hKL186 (f + 1, _, _) ?hi_217 ?hm_217)
     case hs_217 => repeat first | exact sub_nil | refine sub_cons rfl ?_
     case hi_217 => omega
     case hm_217 => omega
    try simp only [sA] at hc10
    refine gc_exit ?_
    refine gk_then_exit ?_
    refine gk_then_exit ?_
    refine gk_block_hit ?_
    refine gk_then (hK184 _ _ ?_)
    refine gc_region ?_
    refine gv (qtf underlying27 (z := 0) (off := 4)) ?_
    refine gv (qtl underlying25 (n := 7)) ?_
    refine gm ?_
    refine gop fun K219 hK219 => ?_
    refine go_sliceR1 (m := 10) rfl rfl rfl rfl underlying25 rfl ?_
    intro B218
    refine hK219 _ _ ?_
    refine gop fun K221 hK221 => ?_
    refine go_appendRow (n := 6) (m := 10) (m' := 9) rfl rfl rfl underlying25 rfl rfl rfl rfl rfl (by omega) ?_
    intro va220 vc220
    refine hK221 _ _ ?_
    refine gv (qtf underlying27 (z := 0) (off := 4)) ?_
    refine gop fun K222 hK222 => ?_
    refine go_storeB (n := 7) rfl rfl rfl rfl (by kernel_rfl) rfl rfl rfl (by first | decide | simp) ?_
    refine hK222 _ _ ?_
    refine g_nil ?_
    refine gk_block ?_
    refine gk_then (hK58 _ _ ?_)
    refine gc_region ?_
    refine gm ?_
    refine gv (qt_add rfl rfl rfl (by omega)) ?_
    refine gas ?_
    refine g_nil ?_
    obtain rfl : f = c.s.length := by omega
    simp only [pdR_def, pdS_def, pdT_def, tab2_succ (φ := pdS c d) (m := d.s.length) (a := a) (b := b) (by omega), tab2_succ (φ := pdT c d) (m := d.s.length) (a := a) (b := b) (by omega), rows2_succ (ψ := pdR c d) (m := d.s.length) (a := a) (b := b) (by omega)]
    refine gk_then (gk_take 8 ?_)
    refine gk_sub ?hs_223 (hKL55 (b + 1, _, _, _, _, _, _, _) ?hi_223 ?hm_223)
    case hs_223 => repeat first | exact sub_nil | refine sub_cons rfl ?_
    case hi_223 => omega
    case hm_223 => omega
   refine go_slice1 rfl rfl rfl rfl underlying24 ?_
   intro B224
   refine hK174 _ _ (fun w M => (ms0 4 7 9 M :)) ?_
   refine gao 1 fun K226 hK226 => ?_
   refine gov (qtl underlying24 (n := 7)) ?_
   refine hK226 _ _ (fun w M => (ms0 4 7 9 M :)) ?_
   refine gao 16 fun K228 hK228 => ?_
   refine go_append (n := 4) (m := 9) rfl rfl rfl underlying24 rfl rfl rfl rfl (by omega) ?_
   intro va227 vc227
   refine hK228 _ _ (fun w M => (ms0 4 7 9 M :)) ?_
   refine gav 17 rfl (qtf underlying27 (z := 0) (off := 2)) ?_
   refine gao 18 fun K229 hK229 => ?_
   refine go_storeB (n := 7) rfl rfl rfl rfl (by kernel_rfl) rfl rfl rfl (by first | decide | simp) ?_
   refine hK229 _ _ (fun w M => (ms0 4 7 9 M :)) ?_
   refine ga_done (by kernel_rfl) ?_
   refine gk_then (hK173 _ _ ?_)
   refine gc_sr fun K230 hK230 => ?_
   refine gop fun K232 hK232 => ?_
   refine go_slice0 rfl rfl rfl underlying24 ?_
   intro B231
   refine hK232 _ _ ?_
   refine gas ?_
   refine gnt (hK230 _ _ ?_)
   refine gc_seq fun K233 hK233 => ?_
   refine gc_sr fun K234 hK234 => ?_
   refine gas ?_
   refine gnt (hK234 _ _ ?_)
   refine gc_block ?_
   try simp only [sL]
   refine gc_loopT ([(0, _), (1, _), (2, _), (3, _), (4, _), (5, _), (6, _), (7, _), (8, _), (10, _), (11, _), (33, _), (63, _), (70, _)] : Env) (fun s : Nat × (Option Addr) × Nat => (fun (f : Nat) (z : Option Addr) (p : Nat) => (([(12, .slice z (tab2 (fun f g => pdM c d a b f g) d.s.length f 0).length p), (13, .int .i64 (f : Int))] : Env), ([(10, own1I (.slice z (tab2 (fun f g => pdM c d a b f g) d.s.length f 0).length p) (tab2 (fun f g => pdM c d a b f g) d.s.length f 0))] : List (Nat × Itm)), f ≤ c.s.length, c.s.length - f)) s.1 s.2.1 s.2.2) (0, _, _) (by repeat first | exact sub_nil | refine sub_cons rfl ?_) rfl (Nat.zero_le _) ?_
   rintro ⟨f, z, p⟩ hinv KL235 hKL235
   simp only [sU, sL] at hinv hKL235 ⊢
   have hf := hinv
   refine gc_seq fun K236 hK236 => ?_
   refine gc_sr fun K237 hK237 => ?_
   refine gm ?_
   refine gv (qtf underlying27 (z := 0) (off := 1)) ?_
   refine gv (qtl underlying24 (n := 0)) ?_
   refine gv (qln (fun w M => lenV_rd h1)) ?_
   refine gv (qt_lss rfl rfl rfl) ?_
   refine gnt (hK237 _ _ ?_)
   refine gc_cond rfl (fun hc13 => ?_) (fun hc13 => ?_)
   ·try simp only [sA] at hc13
    refine gc_skip ?_
    refine gk_then (hK236 _ _ ?_)
    refine gc_seq fun K238 hK238 => ?_
    refine gc_block ?_
    refine gc_sr fun K239 hK239 => ?_
    refine gas ?_
    refine gnt (hK239 _ _ ?_)
    refine gc_block ?_
    try simp only [sL]
    refine gc_loopT ([(0, _), (1, _), (2, _), (3, _), (4, _), (5, _), (6, _), (7, _), (8, _), (10, _), (11, _), (13, _), (33, _), (63, _), (70, _), (114, _)] : Env) (fun s : Nat × (Option Addr) × Nat => (fun (g : Nat) (z : Option Addr) (p : Nat) => (([(12, .slice z (tab2 (fun f g => pdM c d a b f g) d.s.length f g).length p), (14, .int .i64 (g : Int))] : Env), ([(10, own1I (.slice z (tab2 (fun f g => pdM c d a b f g) d.s.length f g).length p) (tab2 (fun f g => pdM c d a b f g) d.s.length f g))] : List (Nat × Itm)), g ≤ d.s.length, d.s.length - g)) s.1 s.2.1 s.2.2) (0, _, _) (by repeat first | exact sub_nil | refine sub_cons rfl ?_) rfl (Nat.zero_le _) ?_
    rintro ⟨g, z, p⟩ hinv KL240 hKL240
    simp only [sU, sL] at hinv hKL240 ⊢
    have hg5 := hinv
    have hl5 := tab2_len (fun f g => pdM c d a b f g) d.s.length f g
    have hg6 := grid_small (n := c.s.length) (m := d.s.length) (a := f) (b := g) hn40 gn40 (by omega) hg5
    refine gc_seq fun K241 hK241 => ?_
    refine gc_sr fun K242 hK242 => ?_
    refine gm ?_
    refine gv (qtf underlying27 (z := 0) (off := 1)) ?_
    refine gv (qtl underlying24 (n := 1)) ?_
    refine gv (qln (fun w M => lenV_rd e1)) ?_
    refine gv (qt_lss rfl rfl rfl) ?_
    refine gnt (hK242 _ _ ?_)
    refine gc_cond rfl (fun hc14 => ?_) (fun hc14 => ?_)
    ·try simp only [sA] at hc14
     refine gc_skip ?_
     refine gk_then (hK241 _ _ ?_)
     refine gc_seq fun K243 hK243 => ?_
     refine gc_block ?_
     refine gc_sr fun K244 hK244 => ?_
     refine gas ?_
     refine gnt (hK244 _ _ ?_)
     refine gc_seq fun K245 hK245 => ?_
     refine gc_seq fun K246 hK246 => ?_
     have r1 := arrP hS (f := (a : Int)) (by omega) (by omega)
     have r2 := r1.fm; have r3 := r1.row
     have s1 := arrP gS (f := (b : Int)) (by omega) (by omega)
     have s2 := s1.fm; have s3 := s1.row
     have t1 := th_lt hS (f := a) (g := f) (by omega) (by omega)
     have t2 := th_lt gS (f := b) (g := g) (by omega) (by omega)
     refine gc_region ?_
     refine gv (qtf underlying27 (z := 0) (off := 4)) ?_
     refine gv (qtl underlying25 (n := 0)) ?_
     refine gm ?_
     refine gv (qti2 (fun w M => lenA_rd2 h4)) ?_
     refine g_load2 (.free rfl) rfl rfl rfl rfl underlying24 rfl h4 (by omega) (by omega) ?_
     intro ra247 rc247 hr247
     refine gm ?_
     refine gv (qti (fun w M => lenA_rd hr247)) ?_
     refine gv (qtd (fun w M => mem_rd M hr247)) ?_
     refine gv (qt_geq rfl rfl rfl) ?_
     refine g_splitv (.free rfl) rfl rfl (qt_move rfl rfl) (fun hs26_9 => ?_) (fun hs26_9 => ?_)
     ·try simp only [sA] at hs26_9
      refine gvh (qtf underlying27 (z := 0) (off := 4)) ?_
      refine gvh (qtl underlying25 (n := 1)) ?_
      refine gvh (qt_move rfl rfl) ?_
      refine gvh (qti2 (fun w M => lenA_rd2 e4)) ?_
      refine g_load2 (.held _ _ _ rfl rfl rfl) rfl rfl rfl rfl underlying24 rfl e4 (by omega) (by omega) ?_
      intro ra248 rc248 hr248
      refine gvh (qt_move rfl rfl) ?_
      refine gvh (qti (fun w M => lenA_rd hr248)) ?_
      refine gvh (qtd (fun w M => mem_rd M hr248)) ?_
      refine gvh (qt_geq rfl rfl rfl) ?_
      refine gv (qt_pick_t rfl rfl rfl) ?_
      refine gnt (hK246 _ _ ?_)
      refine gc_cond rfl (fun hc15 => ?_) (fun hc15 => ?_)
      ·try simp only [sA] at hc15
       have i3 := mul_bd (x := at0 (row2 c.m (a : Int)) (f : Int)) (a := c.s.length) (b := d.s.length) ⟨hs26_9, t1⟩ (by omega) (by omega)
       have t3 : at0 (row2 d.m (b : Int)) (g : Int) < (d.s.length : Int) := t2
       refine gc_draw (by kernel_rfl) ?_
       refine gdv (qtf underlying27 (z := 0) (off := 4)) ?_
       refine gdv (qtl underlying25 (n := 0)) ?_
       refine gdv (qt_move rfl rfl) ?_
       refine gdv (qti2 (fun w M => lenA_rd2 h4)) ?_
       refine gd_load2 (.free rfl) rfl rfl rfl rfl underlying24 rfl h4 (by omega) (by omega) ?_
       intro ra249 rc249 hr249
       refine gdv (qt_move rfl rfl) ?_
       refine gdv (qti (fun w M => lenA_rd hr249)) ?_
       refine gdv (qtd (fun w M => mem_rd M hr249)) ?_
       refine gdv (qt_move rfl rfl) ?_
       refine gdv (qt_mul rfl rfl rfl (by omega)) ?_
       refine gdv (qtf underlying27 (z := 0) (off := 4)) ?_
       refine gdv (qtl underlying25 (n := 1)) ?_
       refine gdv (qt_move rfl rfl) ?_
       refine gdv (qti2 (fun w M => lenA_rd2 e4)) ?_
       refine gd_load2 (.free rfl) rfl rfl rfl rfl underlying24 rfl e4 (by omega) (by omega) ?_
       intro ra250 rc250 hr250
       refine gdv (qt_move rfl rfl) ?_
       refine gdv (qti (fun w M => lenA_rd hr250)) ?_
       refine gdv (qtd (fun w M => mem_rd M hr250)) ?_
       refine gdv (qt_add rfl rfl rfl (by omega)) ?_
       refine gdv (qt_assign rfl rfl) ?_
       refine gd_nil ?_
       refine gk_then (hK245 _ _ ?_)
       refine gc_region ?_
       refine gm ?_
       refine gm ?_
       refine gop fun K252 hK252 => ?_
       refine go_slice1 rfl rfl rfl rfl underlying24 ?_
       intro B251
       refine hK252 _ _ ?_
       refine gop fun K254 hK254 => ?_
       refine go_append (n := 10) (m := 11) rfl rfl rfl underlying24 rfl rfl rfl rfl (by omega) ?_
       intro va253 vc253
       refine hK254 _ _ ?_
       refine gas ?_
       refine g_nil ?_
       refine gk_block ?_
       refine gk_then (hK243 _ _ ?_)
       refine gc_region ?_
       refine gm ?_
       refine gv (qt_add rfl rfl rfl (by omega)) ?_
       refine gas ?_
       refine g_nil ?_
       have hv : at0 (row2 c.m (a : Int)) (f : Int) * d.s.length + at0 (row2 d.m (b : Int)) (g : Int) = pdM c d a b f g := pdM_t hs26_9 (by assumption)
       rw [hv]
       simp only [tab2_succ (φ := fun f g => pdM c d a b f g) (m := d.s.length) (a := f) (b := g) (by omega)]
       refine gk_then (gk_take 11 ?_)
       refine gk_sub ?hs_255 (hKL240 (g + 1, _, _) ?hi_255 ?hm_255)
       case hs_255 => repeat first | exact sub_nil | refine sub_cons rfl ?_
       case hi_255 => omega
       case hm_255 => omega
      try simp only [sA] at hc15
      refine gc_skip ?_
      refine gk_then (hK245 _ _ ?_)
      refine gc_region ?_
      refine gm ?_
      refine gm ?_
      refine gop fun K257 hK257 => ?_
      refine go_slice1 rfl rfl rfl rfl underlying24 ?_
      intro B256
      refine hK257 _ _ ?_
      refine gop fun K259 hK259 => ?_
      refine go_append (n := 10) (m := 11) rfl rfl rfl underlying24 rfl rfl rfl rfl (by omega) ?_
      intro va258 vc258
      refine hK259 _ _ ?_
      refine gas ?_
      refine g_nil ?_
      refine gk_block ?_
      refine gk_then (hK243 _ _ ?_)
      refine gc_region ?_
      refine gm ?_
      refine gv (qt_add rfl rfl rfl (by omega)) ?_
      refine gas ?_
      refine g_nil ?_
      have hv : (-1 : Int) = pdM c d a b f g := pdM_f (fun hh => absurd hh.2 (by assumption))
      rw [hv]
      simp only [tab2_succ (φ := fun f g => pdM c d a b f g) (m := d.s.length) (a := f) (b := g) (by omega)]
      refine gk_then (gk_take 11 ?_)
      refine gk_sub ?hs_260 (hKL240 (g + 1, _, _) ?hi_260 ?hm_260)
      case hs_260 => repeat first | exact sub_nil | refine sub_cons rfl ?_
      case hi_260 => omega
      case hm_260 => omega
     try simp only [sA] at hs26_9
     refine gsk ?_
     refine gsk ?_
     refine gsk ?_
     refine gsk ?_
     refine gsk ?_
     refine gsk ?_
     refine gsk ?_
     refine gsk ?_
     refine gsk ?_
     refine gv (qt_pick_f rfl rfl rfl) ?_
     refine gnt (hK246 _ _ ?_)
     refine gc_cond_f rfl ?_
     refine gc_skip ?_
     refine gk_then (hK245 _ _ ?_)
     refine gc_region ?_
     refine gm ?_
     refine gm ?_
     refine gop fun K262 hK262 => ?_
     refine go_slice1 rfl rfl rfl rfl underlying24 ?_
     intro B261
     refine hK262 _ _ ?_
     refine gop fun K264 hK264 => ?_
     refine go_append (n := 10) (m := 11) rfl rfl rfl underlying24 rfl rfl rfl rfl (by omega) ?_
     intro va263 vc263
     refine hK264 _ _ ?_
     refine gas ?_
     refine g_nil ?_
     refine gk_block ?_
     refine gk_then (hK243 _ _ ?_)
     refine gc_region ?_
     refine gm ?_
     refine gv (qt_add rfl rfl rfl (by omega)) ?_
     refine gas ?_
     refine g_nil ?_
     have hv : (-1 : Int) = pdM c d a b f g := pdM_f (fun hh => hs26_9 hh.1)
     rw [hv]
     simp only [tab2_succ (φ := fun f g => pdM c d a b f g) (m := d.s.length) (a := f) (b := g) (by omega)]
     refine gk_then (gk_take 11 ?_)
     refine gk_sub ?hs_265 (hKL240 (g + 1, _, _) ?hi_265 ?hm_265)
     case hs_265 => repeat first | exact sub_nil | refine sub_cons rfl ?_
     case hi_265 => omega
     case hm_265 => omega
    try simp only [sA] at hc14
    refine gc_exit ?_
    refine gk_then_exit ?_
    refine gk_then_exit ?_
    refine gk_block_hit ?_
    refine gk_block ?_
    refine gk_then (hK238 _ _ ?_)
    refine gc_region ?_
    refine gm ?_
    refine gv (qt_add rfl rfl rfl (by omega)) ?_
    refine gas ?_
    refine g_nil ?_
    obtain rfl : g = d.s.length := by omega
    rw [tab2_row]
    refine gk_then (gk_take 11 ?_)
    refine gk_sub ?hs_266 (hKL235 (f + 1, _, _) ?hi_266 ?hm_266)
    case hs_266 => repeat first | exact sub_nil | refine sub_cons rfl ?_
    case hi_266 => omega
    case hm_266 => omega
   try simp only [sA] at hc13
   refine gc_exit ?_
   refine gk_then_exit ?_
   refine gk_then_exit ?_
   refine gk_block_hit ?_
   refine gk_then (hK233 _ _ ?_)
   refine gc_region ?_
   refine gv (qtf underlying27 (z := 0) (off := 4)) ?_
   refine gv (qtl underlying25 (n := 7)) ?_
   refine gm ?_
   refine gop fun K268 hK268 => ?_
   refine go_sliceR1 (m := 10) rfl rfl rfl rfl underlying25 rfl ?_
   intro B267
   refine hK268 _ _ ?_
   refine gop fun K270 hK270 => ?_
   refine go_appendRow (n := 6) (m := 10) (m' := 9) rfl rfl rfl underlying25 rfl rfl rfl rfl rfl (by omega) ?_
   intro va269 vc269
   refine hK270 _ _ ?_
   refine gv (qtf underlying27 (z := 0) (off := 4)) ?_
   refine gop fun K271 hK271 => ?_
   refine go_storeB (n := 7) rfl rfl rfl rfl (by kernel_rfl) rfl rfl rfl (by first | decide | simp) ?_
   refine hK271 _ _ ?_
   refine g_nil ?_
   refine gk_block ?_
   refine gk_then (hK58 _ _ ?_)
   refine gc_region ?_
   refine gm ?_
   refine gv (qt_add rfl rfl rfl (by omega)) ?_
   refine gas ?_
   refine g_nil ?_
   obtain rfl : f = c.s.length := by omega
   simp only [pdR_def, pdS_def, pdT_def, tab2_succ (φ := pdS c d) (m := d.s.length) (a := a) (b := b) (by omega), tab2_succ (φ := pdT c d) (m := d.s.length) (a := a) (b := b) (by omega), rows2_succ (ψ := pdR c d) (m := d.s.length) (a := a) (b := b) (by omega)]
   refine gk_then (gk_take 8 ?_)
   refine gk_sub ?hs_272 (hKL55 (b + 1, _, _, _, _, _, _, _) ?hi_272 ?hm_272)
   case hs_272 => repeat first | exact sub_nil | refine sub_cons rfl ?_
   case hi_272 => omega
   case hm_272 => omega
  try simp only [sA] at hc3
  refine gc_exit ?_
  refine gk_then_exit ?_
  refine gk_then_exit ?_
  refine gk_block_hit ?_
  refine gk_block ?_
  refine gk_then (hK53 _ _ ?_)
  refine gc_region ?_
  refine gm ?_
  refine gv (qt_add rfl rfl rfl (by omega)) ?_
  refine gas ?_
  refine g_nil ?_
  obtain rfl : b = d.s.length := by omega
  rw [tab2_row, tab2_row, rows2_row]
  refine gk_then (gk_take 8 ?_)
  refine gk_sub ?hs_273 (hKL50 (a + 1, _, _, _, _, _, _, _) ?hi_273 ?hm_273)
  case hs_273 => repeat first | exact sub_nil | refine sub_cons rfl ?_
  case hi_273 => omega
  case hm_273 => omega
 try simp only [sA] at hc2
 refine gc_exit ?_
 refine gk_then_exit ?_
 refine gk_then_exit ?_
 refine gk_block_hit ?_
 refine gk_then (hK48 _ _ ?_)
 refine gc_sr fun K274 hK274 => ?_
 refine gv (qts underlying27 (n := 7)) ?_
 refine gop fun K275 hK275 => ?_
 refine gss 2 ?_
 refine hK275 _ _ ?_
 refine gnt (hK274 _ _ ?_)
 refine gc_ret ?_
 refine ret_S (n := 2) rfl rfl underlying27 rfl (by kernel_rfl) rfl (fun w M => ?_)
 obtain rfl : a = c.s.length := by omega
 exact ⟨_, rfl, ownC_star (c := prodM c d) (mem_pick (n := 6) (mem_pick (n := 6) (mem_pick (n := 6) (mem_pick (n := 6) (M) rfl) rfl) rfl) rfl).2, M.1⟩
end Go.Proofs.Ytbiplocgenppoaa
