import Derived.Test.YtbiplocgenppoaaC13
import Derived.Test.YtbiplocgenppoaaC30
import Derived.Test.YtbiplocgenppoaaC31
import Derived.Test.YtbiplocgenppoaaC32
import Derived.Test.YtbiplocgenppoaaC33
import Derived.Test.YtbiplocgenppoaaC1
set_option maxHeartbeats 8000000
set_option maxRecDepth 100000
set_option linter.unusedSimpArgs false
set_option linter.unusedVariables false
set_option linter.unusedSectionVars false
namespace Go.Proofs.Ytbiplocgenppoaa
open _root_.Go.Proofs.Try
open Go.RowKit
section
variable {w0 : World} {is : List Itm} {ops : Array Oper} {Q : Exit → Act → World → Prop} {o : Oper} {rest : List Oper} {N : Frm} {e : Env} {v : Value} {d : Nat} {K : Act → World → Prop} {f : FuncId} {fn : Func} {ags : Array Operand} {ts : Array TypeId} {vs : List Value}
theorem g_skipU {j t : Nat} {b : Bool} (h : o.guard = some (j, b)) (hj : (ops[j]?).bind (·.dst) = some t) (ht : look e t = some undef) (hd : o.dst = some d) (hN : Nat.blt d N = true) (hk : G w0 is N ops Q rest ((d, undef) :: e)) : G w0 is N ops Q (o :: rest) e := by
 intro w a M F R
 unfold wpListIn
 have hw : Region.wanted o (yielded ops a.tmps) = false := by
  simp [Region.wanted, h, yielded, hj, F.at_ t _ ht, undef]
 rw [if_neg (by simp [hw]), hd]
 exact ⟨fun _ _ => trivial, hk w _ M (fit_put F hN) R.r⟩
end
theorem bigM_any (w : World) (a : Option Addr) (len cap : Nat) (hl : len ≤ 9223372036854775807) : Calls Try.prog 5 #[.slice a len cap] w (RetB w (decide (4096 < (len : Int)))) := by
 go_enter func5, Try.ntmps5
 go_wp2
 go_ret
 exact ⟨by simp, (Below.refl _ _)⟩
theorem run_equalIn_boolM (w : World) (d : Nat) (t : TypeId) (a b : Bool) (h : Try.prog.underlying t = some .bool) : (Op.equalIn (d + 1) t (.bool a) (.bool b)).run Try.prog w = .ok (a == b) w := by simp [Op.equalIn, run_underlying h, Sem.run_bind, Sem.run_pure]
theorem run_equal_boolM (w : World) (t : TypeId) (a b : Bool) (h : Try.prog.underlying t = some .bool) : (Op.equal t (.bool a) (.bool b)).run Try.prog w = .ok (a == b) w := run_equalIn_boolM w 9999 t a b h
section
variable {w0 : World} {is : List Itm} {o : Oper} {e : Env}
theorem qt_neqBM_f {x y : Operand} {t u : TypeId} {a b : Bool} (hop : o.op = .binOp .neq t x y u) (hx : evo e x = some (.bool a)) (hy : evo e y = some (.bool b)) (ht : Try.prog.underlying t = some .bool) (h : a = b) : QV w0 is o e (.bool false) :=
 fun w ac M F => by
  have hx := F _ _ hx; have hy := F _ _ hy
  subst h
  simp [execOp, hop, hx, hy, eqGuard, binOp, Sem.run_bind, Sem.run_pure, run_equal_boolM w t a a ht]
end
theorem then9_any (w : World) (v : Value) (c : Cat) (f g : Int) (h : RdC w v c) (hS : ShapeP c) (f0 : 0 ≤ f) (f1 : f < c.s.length) (g0 : 0 ≤ g) (g1 : g < c.s.length) :
  Calls Try.prog 14 #[v, .int .i64 f, .int .i64 g] w (RetI w (c.th f g)) := by
 have h0 := h
 obtain ⟨va, vb, vc, vd, ve, vf, vg, vh, rfl, h1, h2, h3, h4, _⟩ := h.lists
 have hA := arrP hS f0 f1
 have a0 := hA.fm; have a1 := hA.row; have hml := hS.ml
 go_enter func14, Try.ntmps14
 refine gc_enter (N := 38) rfl (look_cons (k := 0) rfl (look_cons (k := 1) rfl (look_cons (k := 2) rfl (look_nil _)))) ?_
 refine gc_sr fun K1 hK1 => ?_
 refine gop fun K3 hK3 => ?_
 refine go_box rfl rfl rfl rfl rfl ?_
 intro B2
 refine hK3 _ _ ?_
 refine gas ?_
 refine gnt (hK1 _ _ ?_)
 refine gc_seq fun K4 hK4 => ?_
 refine gc_sr fun K5 hK5 => ?_
 refine gm ?_
 refine gv (qt_lss rfl rfl rfl) ?_
 refine g_splitv (.free rfl) rfl rfl (qt_move rfl rfl) (fun hs1_2 => ?_) (fun hs1_2 => ?_)
 ·try simp only [sA] at hs1_2
  refine gsk ?_
  refine gsk ?_
  refine gv (qt_pick_t rfl rfl rfl) ?_
  refine gm ?_
  refine gsk ?_
  refine gsk ?_
  refine gsk ?_
  refine gsk ?_
  refine gsk ?_
  refine gv (qt_pick_t rfl rfl rfl) ?_
  refine gm ?_
  refine gsk ?_
  refine gsk ?_
  refine gsk ?_
  refine gsk ?_
  refine gsk ?_
  refine gsk ?_
  refine gsk ?_
  refine gsk ?_
  refine gv (qt_pick_t rfl rfl rfl) ?_
  refine gnt (hK5 _ _ ?_)
  refine gc_cond_t rfl ?_
  refine gc_sr fun K6 hK6 => ?_
  refine gas ?_
  refine gnt (hK6 _ _ ?_)
  refine gc_ret ?_
  refine gk_then_ret ?_
  refine ret_1 rfl rfl  (fun w M => ?_)
  first | exact ⟨rfl, M.1⟩ | (exfalso; omega)
 try simp only [sA] at hs1_2
 refine gvh (qt_move rfl rfl) ?_
 refine gvh (qt_lss rfl rfl rfl) ?_
 refine gv (qt_pick_f rfl rfl rfl) ?_
 refine g_splitv (.free rfl) rfl rfl (qt_move rfl rfl) (fun hs1_6 => ?_) (fun hs1_6 => ?_)
 ·try simp only [sA] at hs1_6
  refine gsk ?_
  refine gsk ?_
  refine gsk ?_
  refine gsk ?_
  refine gsk ?_
  refine gv (qt_pick_t rfl rfl rfl) ?_
  refine gm ?_
  refine gsk ?_
  refine gsk ?_
  refine gsk ?_
  refine gsk ?_
  refine gsk ?_
  refine gsk ?_
  refine gsk ?_
  refine gsk ?_
  refine gv (qt_pick_t rfl rfl rfl) ?_
  refine gnt (hK5 _ _ ?_)
  refine gc_cond_t rfl ?_
  refine gc_sr fun K7 hK7 => ?_
  refine gas ?_
  refine gnt (hK7 _ _ ?_)
  refine gc_ret ?_
  refine gk_then_ret ?_
  refine ret_1 rfl rfl  (fun w M => ?_)
  first | exact ⟨rfl, M.1⟩ | (exfalso; omega)
 try simp only [sA] at hs1_6
 refine gvh (qt_move rfl rfl) ?_
 refine gvh (qtf underlying27 (z := 0) (off := 4)) ?_
 refine gvh (qtl underlying25 (n := 0)) ?_
 refine gvh (qt_len rfl rfl ulE2 (fun w M => lenV_rd2 h4)) ?_
 refine gvh (qt_geq rfl rfl rfl) ?_
 refine gv (qt_pick_f rfl rfl rfl) ?_
 refine g_splitv (.free rfl) rfl rfl (qt_move rfl rfl) (fun hs1_13 => ?_) (fun hs1_13 => ?_)
 ·try simp only [sA] at hs1_13
  refine gsk ?_
  refine gsk ?_
  refine gsk ?_
  refine gsk ?_
  refine gsk ?_
  refine gsk ?_
  refine gsk ?_
  refine gsk ?_
  refine gv (qt_pick_t rfl rfl rfl) ?_
  refine gnt (hK5 _ _ ?_)
  refine gc_cond_t rfl ?_
  refine gc_sr fun K8 hK8 => ?_
  refine gas ?_
  refine gnt (hK8 _ _ ?_)
  refine gc_ret ?_
  refine gk_then_ret ?_
  refine ret_1 rfl rfl  (fun w M => ?_)
  first | exact ⟨rfl, M.1⟩ | (exfalso; omega)
 try simp only [sA] at hs1_13
 refine gvh (qt_move rfl rfl) ?_
 refine gvh (qtf underlying27 (z := 0) (off := 4)) ?_
 refine gvh (qtl underlying25 (n := 0)) ?_
 refine gvh (qt_move rfl rfl) ?_
 refine gvh (qti2 (fun w M => lenA_rd2 h4)) ?_
 refine g_load2 (.held _ _ _ rfl rfl rfl) rfl rfl rfl rfl underlying24 rfl h4 (by omega) (by omega) ?_
 intro ra9 rc9 hr9
 refine gvh (qln (fun w M => lenV_rd hr9)) ?_
 refine gvh (qt_geq rfl rfl rfl) ?_
 refine gv (qt_pick_f rfl rfl rfl) ?_
 refine gnt (hK5 _ _ ?_)
 refine gc_cond rfl (fun hc0 => ?_) (fun hc0 => ?_)
 ·try simp only [sA] at hc0
  refine gc_sr fun K10 hK10 => ?_
  refine gas ?_
  refine gnt (hK10 _ _ ?_)
  refine gc_ret ?_
  refine gk_then_ret ?_
  refine ret_1 rfl rfl  (fun w M => ?_)
  first | exact ⟨rfl, M.1⟩ | (exfalso; omega)
 try simp only [sA] at hc0
 refine gc_skip ?_
 refine gk_then (hK4 _ _ ?_)
 refine gc_sr fun K11 hK11 => ?_
 refine gv (qtf underlying27 (z := 0) (off := 4)) ?_
 refine gv (qtl underlying25 (n := 0)) ?_
 refine gm ?_
 refine gv (qti2 (fun w M => lenA_rd2 h4)) ?_
 refine g_load2 (.free rfl) rfl rfl rfl rfl underlying24 rfl h4 (by omega) (by omega) ?_
 intro ra12 rc12 hr12
 refine gm ?_
 refine gv (qti (fun w M => lenA_rd hr12)) ?_
 refine gv (qtd (fun w M => mem_rd M hr12)) ?_
 refine gas ?_
 refine gnt (hK11 _ _ ?_)
 refine gc_ret ?_
 refine ret_1 rfl rfl  (fun w M => ?_)
 first | exact ⟨rfl, M.1⟩ | (exfalso; omega)
theorem canWalk (w : World) (ca : Option Addr) (clen ccap : Nat) (h : InB w (.slice ca clen ccap)) (hcl : clen ≤ 9223372036854775807) :
  Calls Try.prog 3 #[.slice ca clen ccap] w (RetB w true) := by
 go_enter func3, Try.ntmps3
 refine gc_enter (N := 148) rfl (look_cons (k := 0) rfl (look_nil _)) ?_
 refine gc_sr fun K1 hK1 => ?_
 refine gas ?_
 refine gnt (hK1 _ _ ?_)
 refine gc_seq fun K2 hK2 => ?_
 refine gc_sr fun K3 hK3 => ?_
 refine gm ?_
 refine g_q (.free rfl) rfl rfl (qt_call rfl func5 rfl (by decide) rfl (fun w M => bigM_any w _ _ _ (by first | assumption | omega))) ?_
 refine gnt (hK3 _ _ ?_)
 refine gc_cond rfl (fun hc0 => ?_) (fun hc0 => ?_)
 ·try simp only [sA] at hc0
  refine gc_sr fun K4 hK4 => ?_
  refine gas ?_
  refine gnt (hK4 _ _ ?_)
  refine gc_ret ?_
  refine gk_then_ret ?_
  refine ret_1 rfl rfl  (fun w M => ?_)
  first | exact ⟨rfl, M.1⟩ | (exfalso; first | omega | exact bP_f' (by assumption) (hA (bP_t' (by assumption)) (bP_t' (by assumption))) | exact bP_f' (by assumption) (hB (bP_t' (by assumption))) | exact bP_f' (by assumption) (hrm (by omega)))
 try simp only [sA] at hc0
 refine gc_skip ?_
 refine gk_then (hK2 _ _ ?_)
 refine gc_sr fun K5 hK5 => ?_
 refine gm ?_
 refine gop fun K7 hK7 => ?_
 refine go_callHV (α := Int) (P := fun c x => DrawP c ∧ NumP x) (V := fun x v => .tuple #[v, .int .i64 x]) rfl rfl rfl func6 rfl (by decide) rfl (fun w M => drawIsMono_any w ca clen ccap (inb_below M.1 h)) ?_
 intro c f ca1 cb1 cc1 cd1 ce1 cf1 cg1 ch1 hdraw
 refine hK7 _ _ ?_
 refine gm ?_
 refine gv (qt_extract rfl rfl rfl) ?_
 refine gv (qt_extract rfl rfl rfl) ?_
 refine gop fun K9 hK9 => ?_
 refine go_alloc (z := (.agg #[.int .i64 0, .slice none 0 0, .slice none 0 0, .slice none 0 0, .slice none 0 0])) (cs := [.int .i64 0, .slice none 0 0, .slice none 0 0, .slice none 0 0, .slice none 0 0]) rfl rfl rfl (fun w => by kernel_rfl) rfl ?_
 intro B8
 refine hK9 _ _ ?_
 refine gop fun K10 hK10 => ?_
 refine go_storeS (n := 1) rfl rfl rfl rfl (by kernel_rfl) rfl rfl rfl ?_
 refine hK10 _ _ ?_
 refine gas ?_
 refine gnt (hK5 _ _ ?_)
 refine gc_seq fun K11 hK11 => ?_
 obtain ⟨m, e1, hP⟩ : ∃ m e1, fIsMono c f = (m, e1) := ⟨_, _, rfl⟩
 have HPi := fun (w : World) (v : Value) (h1 : RdC w v c) => impl_IsMono w v c f h1
 simp only [hP] at HPi
 have HPs := fun (w : World) (v : Value) (h1 : RdC w v c) => spec_IsMono w v c f h1
 simp only [hP] at HPs
 refine gc_region ?_
 refine gv (qts underlying27 (n := 1)) ?_
 refine gm ?_
 refine g_q (.free rfl) rfl rfl (qt_call rfl func7 rfl (by decide) rfl (fun w M => HPi w _ (mem_held (n := 0) M rfl))) ?_
 refine gm ?_
 refine gv (qt_extract rfl rfl rfl) ?_
 refine gv (qt_extract rfl rfl rfl) ?_
 refine gas ?_
 refine gas ?_
 refine gnt (hK11 _ _ ?_)
 refine gc_sr fun K12 hK12 => ?_
 refine gv (qts underlying27 (n := 1)) ?_
 refine gm ?_
 refine g_q (.free rfl) rfl rfl (qt_call rfl func8 rfl (by decide) rfl (fun w M => HPs w _ (mem_held (n := 0) M rfl))) ?_
 refine gm ?_
 refine gv (qt_extract rfl rfl rfl) ?_
 refine gv (qt_extract rfl rfl rfl) ?_
 refine gas ?_
 refine gas ?_
 refine gnt (hK12 _ _ ?_)
 refine gc_seq fun K13 hK13 => ?_
 refine gc_sr fun K14 hK14 => ?_
 refine gm ?_
 refine gm ?_
 refine gv (qt_neq_f rfl rfl rfl (fun h => h rfl)) ?_
 refine gm ?_
 refine gvh (qt_move rfl rfl) ?_
 refine gvh (qt_move rfl rfl) ?_
 refine gvh (qt_neqBM_f rfl rfl rfl underlying4 rfl) ?_
 refine gv (qt_pick_f rfl rfl rfl) ?_
 refine gnt (hK14 _ _ ?_)
 refine gc_cond_f rfl ?_
 refine gc_skip ?_
 refine gk_then (hK13 _ _ ?_)
 refine gc_seq fun K15 hK15 => ?_
 refine gc_sr fun K16 hK16 => ?_
 refine gm ?_
 refine gv (qt_neq rfl rfl rfl) ?_
 refine gnt (hK16 _ _ ?_)
 refine gc_cond rfl (fun hc1 => ?_) (fun hc1 => ?_)
 ·try simp only [sA] at hc1
  refine gc_seq fun K17 hK17 => ?_
  obtain rfl := can_e hP (by assumption)
  refine gc_region ?_
  refine gm ?_
  refine gv (qt_not rfl rfl) ?_
  refine gas ?_
  refine gnt (hK17 _ _ ?_)
  refine gc_ret ?_
  refine gk_then_ret ?_
  refine ret_1 rfl rfl  (fun w M => ?_)
  first | exact ⟨rfl, M.1⟩ | (exfalso; first | omega | exact bP_f' (by assumption) (hA (bP_t' (by assumption)) (bP_t' (by assumption))) | exact bP_f' (by assumption) (hB (bP_t' (by assumption))) | exact bP_f' (by assumption) (hrm (by omega)))
 try simp only [sA] at hc1
 refine gc_skip ?_
 refine gk_then (hK15 _ _ ?_)
 refine gc_seq fun K18 hK18 => ?_
 obtain ⟨hE, rfl⟩ := can_0 hP (by omega)
 have hq := arrErr_0 hE
 have hC := hq.1
 have hS := hC.toShapeP
 have hf := allP_one.1 hq.2
 have f0 := hf.1; have f1 := hf.2; have hn40 := hS.n40; have htl := hS.tl
 have hcat : fIsCategory c = true := bP_t hC
 have hoc : fIsCategory (oppM c) = true := bP_t (opp_cat hC)
 have hem : fIsEpi (oppM c) f = (bP (monoP c f), 0) := by rw [IsEpi_t (arrErr_t hoc (allP_one.2 ⟨f0, by show f < (c.t.length : Int); omega⟩)), bP_congr (mono_opp hS f0 f1)]
 have HO := fun (w : World) (v : Value) (h1 : RdC w v c) => impl_OppositeCategory w v c h1
 simp only [opp_t hcat] at HO
 have HE := fun (w : World) (v : Value) (h1 : RdC w v (oppM c)) => impl_IsEpi w v (oppM c) f h1
 simp only [hem] at HE
 have HR := fun (w : World) (v : Value) (h1 : RdC w v c) => impl_RetractionsOf w v c f h1
 simp only [RetractionsOf_t hE] at HR
 have hrm : 0 < (retL c f).length → monoP c f := ret_mono hC f0 f1
 refine gc_region ?_
 refine gv (qts underlying27 (n := 1)) ?_
 refine gop fun K20 hK20 => ?_
 refine go_callCI rfl rfl rfl func9 rfl (by decide) rfl (fun w M => HO w _ (mem_held (n := 0) M rfl)) ?_
 intro ca19 cb19 cc19 cd19 ce19 cf19 cg19 ch19 cu19
 refine hK20 _ _ ?_
 refine gm ?_
 refine gv (qt_extract rfl rfl rfl) ?_
 refine gv (qt_extract rfl rfl rfl) ?_
 refine gop fun K22 hK22 => ?_
 refine go_alloc (z := (.agg #[.int .i64 0, .slice none 0 0, .slice none 0 0, .slice none 0 0, .slice none 0 0])) (cs := [.int .i64 0, .slice none 0 0, .slice none 0 0, .slice none 0 0, .slice none 0 0]) rfl rfl rfl (fun w => by kernel_rfl) rfl ?_
 intro B21
 refine hK22 _ _ ?_
 refine gop fun K23 hK23 => ?_
 refine go_storeS (n := 6) rfl rfl rfl rfl (by kernel_rfl) rfl rfl rfl ?_
 refine hK23 _ _ ?_
 refine gas ?_
 refine gnt (hK18 _ _ ?_)
 refine gc_sr fun K24 hK24 => ?_
 refine gv (qts underlying27 (n := 6)) ?_
 refine gm ?_
 refine g_q (.free rfl) rfl rfl (qt_call rfl func10 rfl (by decide) rfl (fun w M => HE w _ (rdC_mk ((mem_own1 (n := 2) M rfl).rd) ((mem_own1 (n := 3) M rfl).rd) ((mem_own1 (n := 4) M rfl).rd) (mem_rdU (n := 5) M rfl)))) ?_
 refine gm ?_
 refine gv (qt_extract rfl rfl rfl) ?_
 refine gv (qt_extract rfl rfl rfl) ?_
 refine gas ?_
 refine gas ?_
 refine gnt (hK24 _ _ ?_)
 refine gc_sr fun K25 hK25 => ?_
 refine gv (qts underlying27 (n := 1)) ?_
 refine gm ?_
 refine gop fun K27 hK27 => ?_
 refine go_callLI rfl rfl rfl func11 rfl (by decide) rfl (fun w M => HR w _ (mem_held (n := 0) M rfl)) ?_
 intro va26 vc26
 refine hK27 _ _ ?_
 refine gm ?_
 refine gv (qt_extract rfl rfl rfl) ?_
 refine gv (qt_extract rfl rfl rfl) ?_
 refine gas ?_
 refine gas ?_
 refine gnt (hK25 _ _ ?_)
 refine gc_seq fun K28 hK28 => ?_
 refine gc_sr fun K29 hK29 => ?_
 refine gm ?_
 refine gm ?_
 refine gv (qt_add rfl rfl rfl (by omega)) ?_
 refine gm ?_
 refine gv (qt_add rfl rfl rfl (by omega)) ?_
 refine gv (qt_neq_f rfl rfl rfl (fun h => h rfl)) ?_
 refine gm ?_
 refine gvh (qt_move rfl rfl) ?_
 refine gvh (qt_move rfl rfl) ?_
 refine gvh (qt_neqBM_f rfl rfl rfl underlying4 rfl) ?_
 refine gv (qt_pick_f rfl rfl rfl) ?_
 refine gm ?_
 refine gvh (qt_move rfl rfl) ?_
 refine gvh (qln (fun w M => lenV_own1 (n := 7) rfl M)) ?_
 refine gvh (qt_gtr rfl rfl rfl) ?_
 refine g_splitv (.held _ _ _ rfl rfl rfl) rfl rfl (qt_move rfl rfl) (fun hs13_15 => ?_) (fun hs13_15 => ?_)
 ·try simp only [sA] at hs13_15
  refine gvh (qt_move rfl rfl) ?_
  refine gvh (qt_not rfl rfl) ?_
  refine gvh (qt_pick_t rfl rfl rfl) ?_
  refine gv (qt_pick_f rfl rfl rfl) ?_
  refine gnt (hK29 _ _ ?_)
  refine gc_cond rfl (fun hc2 => ?_) (fun hc2 => ?_)
  ·try simp only [sA] at hc2
   refine gc_sr fun K30 hK30 => ?_
   refine gas ?_
   refine gnt (hK30 _ _ ?_)
   refine gc_ret ?_
   refine gk_then_ret ?_
   refine ret_1 rfl rfl  (fun w M => ?_)
   first | exact ⟨rfl, M.1⟩ | (exfalso; first | omega | exact bP_f' (by assumption) (hA (bP_t' (by assumption)) (bP_t' (by assumption))) | exact bP_f' (by assumption) (hB (bP_t' (by assumption))) | exact bP_f' (by assumption) (hrm (by omega)))
  try simp only [sA] at hc2
  refine gc_skip ?_
  refine gk_then (hK28 _ _ ?_)
  refine gc_sr fun K31 hK31 => ?_
  refine gm ?_
  refine gop fun K33 hK33 => ?_
  refine go_dicRoll rfl rfl rfl func12 rfl (by decide) rfl h ?_
  intro g
  refine hK33 _ _ ?_
  refine gas ?_
  refine gnt (hK31 _ _ ?_)
  refine gc_seq fun K34 hK34 => ?_
  refine gc_sr fun K35 hK35 => ?_
  refine gas ?_
  refine gnt (hK35 _ _ ?_)
  refine gc_block ?_
  try simp only [sL]
  refine gc_loopT ([(0, _), (3, _), (4, _), (5, _), (6, _), (7, _), (8, _), (9, _), (10, _), (11, _), (12, _), (13, _), (14, _), (15, _), (23, _), (48, _), (50, _), (89, _)] : Env) (fun s : Nat => (fun (k : Nat) => (([(16, .int .i64 (k : Int))] : Env), ([] : List (Nat × Itm)), k ≤ 6, 6 - k)) s) (0) (by repeat first | exact sub_nil | refine sub_cons rfl ?_) rfl (Nat.zero_le _) ?_
  rintro k hinv KL36 hKL36
  simp only [sU, sL] at hinv hKL36 ⊢
  have hk := hinv
  refine gc_seq fun K37 hK37 => ?_
  refine gc_sr fun K38 hK38 => ?_
  refine gm ?_
  refine gv (qt_lss rfl rfl rfl) ?_
  refine gnt (hK38 _ _ ?_)
  refine gc_cond rfl (fun hc3 => ?_) (fun hc3 => ?_)
  ·try simp only [sA] at hc3
   refine gc_skip ?_
   refine gk_then (hK37 _ _ ?_)
   refine gc_seq fun K39 hK39 => ?_
   refine gc_block ?_
   refine gc_sr fun K40 hK40 => ?_
   refine gm ?_
   refine gv (qtf underlying27 (z := 0) (off := 1)) ?_
   refine gv (qtl underlying24 (n := 1)) ?_
   refine gv (qln (fun w M => lenV_rd (RdC.l1 (mem_held (n := 0) M rfl)))) ?_
   refine gop fun K42 hK42 => ?_
   refine go_dicNext (n := 8) rfl rfl rfl func13 rfl (by decide) rfl h rfl (by omega) ?_
   intro r hr
   refine hK42 _ _ ?_
   refine gas ?_
   refine gnt (hK40 _ _ ?_)
   refine gc_seq fun K43 hK43 => ?_
   refine gc_seq fun K44 hK44 => ?_
   have hr0 : (r : Int) < c.s.length := by omega
   refine gc_draw (by kernel_rfl) ?_
   refine gdv (qtf underlying27 (z := 0) (off := 1)) ?_
   refine gdv (qtl underlying24 (n := 1)) ?_
   refine gdv (qt_move rfl rfl) ?_
   refine gdv (qti (fun w M => lenA_rd (RdC.l1 (mem_held (n := 0) M rfl)))) ?_
   refine gdv (qtd (fun w M => RdC.l1 (mem_held (n := 0) M rfl))) ?_
   refine gdv (qtf underlying27 (z := 0) (off := 2)) ?_
   refine gdv (qtl underlying24 (n := 1)) ?_
   refine gdv (qt_move rfl rfl) ?_
   refine gdv (qti (fun w M => lenA_rd (RdC.l2 (mem_held (n := 0) M rfl)))) ?_
   refine gdv (qtd (fun w M => RdC.l2 (mem_held (n := 0) M rfl))) ?_
   refine gdv (qt_neq rfl rfl rfl) ?_
   refine gd_nil ?_
   refine gk_then (hK44 _ _ ?_)
   refine gc_cond rfl (fun hc4 => ?_) (fun hc4 => ?_)
   ·try simp only [sA] at hc4
    refine gc_exit ?_
    refine gk_then_exit ?_
    refine gk_block_hit ?_
    refine gk_then (hK39 _ _ ?_)
    refine gc_region ?_
    refine gm ?_
    refine gv (qt_add rfl rfl rfl (by omega)) ?_
    refine gas ?_
    refine g_nil ?_
    refine gk_then (gk_take 9 ?_)
    refine gk_sub ?hs_45 (hKL36 (k + 1) ?hi_45 ?hm_45)
    case hs_45 => repeat first | exact sub_nil | refine sub_cons rfl ?_
    case hi_45 => omega
    case hm_45 => omega
   try simp only [sA] at hc4
   refine gc_skip ?_
   refine gk_then (hK43 _ _ ?_)
   refine gc_seq fun K46 hK46 => ?_
   have hth := th_ends hS f0 f1 (g := (r : Int)) (by omega) (by omega) (by omega)
   have ht0 := hth.1.1; have ht1 := hth.1.2
   have HN := fun (w : World) (v : Value) (h1 : RdC w v c) => impl_IsMono w v c (r : Int) h1
   simp only [IsMono_t (arrErr_t hcat (allP_one.2 ⟨(by omega : 0 ≤ (r : Int)), (by omega : (r : Int) < c.s.length)⟩))] at HN
   have HB := fun (w : World) (v : Value) (h1 : RdC w v c) => impl_IsMono w v c (c.th f (r : Int)) h1
   simp only [IsMono_t (arrErr_t hcat (allP_one.2 ⟨ht0, ht1⟩))] at HB
   have hA := mono_comp hC f0 f1 (g := (r : Int)) (by omega) (by omega) (by omega)
   have hB := mono_back hC f0 f1 (g := (r : Int)) (by omega) (by omega) (by omega)
   refine gc_region ?_
   refine gv (qts underlying27 (n := 1)) ?_
   refine gm ?_
   refine g_q (.free rfl) rfl rfl (qt_call rfl func7 rfl (by decide) rfl (fun w M => HN w _ (mem_held (n := 0) M rfl))) ?_
   refine gm ?_
   refine gv (qt_extract rfl rfl rfl) ?_
   refine gv (qt_extract rfl rfl rfl) ?_
   refine gas ?_
   refine gas ?_
   refine gnt (hK46 _ _ ?_)
   refine gc_seq fun K47 hK47 => ?_
   refine gc_draw (by kernel_rfl) ?_
   refine gdv (qts underlying27 (n := 1)) ?_
   refine gdv (qts underlying27 (n := 1)) ?_
   refine gdv (qt_move rfl rfl) ?_
   refine gdv (qt_move rfl rfl) ?_
   refine gd_q (.free rfl) rfl rfl (qt_call rfl func14 rfl (by decide) rfl (fun w M => then9_any w _ _ _ _ (mem_held (n := 0) M rfl) (by first | assumption | omega) (by first | assumption | omega) (by first | assumption | omega) (by first | assumption | omega) (by first | assumption | omega))) ?_
   refine gd_q (.free rfl) rfl rfl (qt_call rfl func7 rfl (by decide) rfl (fun w M => HB w _ (mem_held (n := 0) M rfl))) ?_
   refine gdv (qt_move rfl rfl) ?_
   refine gdv (qt_extract rfl rfl rfl) ?_
   refine gdv (qt_extract rfl rfl rfl) ?_
   refine gdv (qt_assign rfl rfl) ?_
   refine gdv (qt_assign rfl rfl) ?_
   refine gd_nil ?_
   refine gk_then (hK47 _ _ ?_)
   refine gc_sr fun K48 hK48 => ?_
   refine gm ?_
   refine gm ?_
   refine gv (qt_add rfl rfl rfl (by omega)) ?_
   refine gv (qt_neq_f rfl rfl rfl (fun h => h rfl)) ?_
   refine gm ?_
   refine gvh (qt_move rfl rfl) ?_
   refine g_splitv (.held _ _ _ rfl rfl rfl) rfl rfl (qt_move rfl rfl) (fun hs23_6 => ?_) (fun hs23_6 => ?_)
   ·try simp only [sA] at hs23_6
    refine gvh (qt_move rfl rfl) ?_
    refine gvh (qt_pick_t rfl rfl rfl) ?_
    refine g_splitv (.held _ _ _ rfl rfl rfl) rfl rfl (qt_move rfl rfl) (fun hs23_9 => ?_) (fun hs23_9 => ?_)
    ·try simp only [sA] at hs23_9
     refine gvh (qt_move rfl rfl) ?_
     refine gvh (qt_not rfl rfl) ?_
     refine gvh (qt_pick_t rfl rfl rfl) ?_
     refine gv (qt_pick_f rfl rfl rfl) ?_
     refine g_splitv (.free rfl) rfl rfl (qt_move rfl rfl) (fun hs23_14 => ?_) (fun hs23_14 => ?_)
     ·try simp only [sA] at hs23_14
      refine gsk ?_
      refine gsk ?_
      refine g_skipU rfl rfl rfl rfl rfl ?_
      refine g_skipU rfl rfl rfl rfl rfl ?_
      refine gsk ?_
      refine gv (qt_pick_t rfl rfl rfl) ?_
      refine gnt (hK48 _ _ ?_)
      refine gc_cond_t rfl ?_
      refine gc_sr fun K49 hK49 => ?_
      refine gas ?_
      refine gnt (hK49 _ _ ?_)
      refine gc_ret ?_
      refine gk_block_ret ?_
      refine gk_then_ret ?_
      refine gk_then_ret ?_
      refine gk_block_ret ?_
      refine gk_then_ret ?_
      refine ret_1 rfl rfl  (fun w M => ?_)
      first | exact ⟨rfl, M.1⟩ | (exfalso; first | omega | exact bP_f' (by assumption) (hA (bP_t' (by assumption)) (bP_t' (by assumption))) | exact bP_f' (by assumption) (hB (bP_t' (by assumption))) | exact bP_f' (by assumption) (hrm (by omega)))
     try simp only [sA] at hs23_14
     refine gvh (qt_move rfl rfl) ?_
     refine g_splitv (.held _ _ _ rfl rfl rfl) rfl rfl (qt_move rfl rfl) (fun hs23_16 => ?_) (fun hs23_16 => ?_)
     ·try simp only [sA] at hs23_16
      refine gvh (qt_move rfl rfl) ?_
      refine gvh (qt_not rfl rfl) ?_
      refine gvh (qt_pick_t rfl rfl rfl) ?_
      refine gv (qt_pick_f rfl rfl rfl) ?_
      refine gnt (hK48 _ _ ?_)
      refine gc_cond rfl (fun hc5 => ?_) (fun hc5 => ?_)
      ·try simp only [sA] at hc5
       refine gc_sr fun K50 hK50 => ?_
       refine gas ?_
       refine gnt (hK50 _ _ ?_)
       refine gc_ret ?_
       refine gk_block_ret ?_
       refine gk_then_ret ?_
       refine gk_then_ret ?_
       refine gk_block_ret ?_
       refine gk_then_ret ?_
       refine ret_1 rfl rfl  (fun w M => ?_)
       first | exact ⟨rfl, M.1⟩ | (exfalso; first | omega | exact bP_f' (by assumption) (hA (bP_t' (by assumption)) (bP_t' (by assumption))) | exact bP_f' (by assumption) (hB (bP_t' (by assumption))) | exact bP_f' (by assumption) (hrm (by omega)))
      try simp only [sA] at hc5
      refine gc_skip ?_
      refine gk_block ?_
      refine gk_then (hK39 _ _ ?_)
      refine gc_region ?_
      refine gm ?_
      refine gv (qt_add rfl rfl rfl (by omega)) ?_
      refine gas ?_
      refine g_nil ?_
      refine gk_then (gk_take 9 ?_)
      refine gk_sub ?hs_51 (hKL36 (k + 1) ?hi_51 ?hm_51)
      case hs_51 => repeat first | exact sub_nil | refine sub_cons rfl ?_
      case hi_51 => omega
      case hm_51 => omega
     try simp only [sA] at hs23_16
     refine gsk ?_
     refine gsk ?_
     refine gvh (qt_pick_f rfl rfl rfl) ?_
     refine gv (qt_pick_f rfl rfl rfl) ?_
     refine gnt (hK48 _ _ ?_)
     refine gc_cond_f rfl ?_
     refine gc_skip ?_
     refine gk_block ?_
     refine gk_then (hK39 _ _ ?_)
     refine gc_region ?_
     refine gm ?_
     refine gv (qt_add rfl rfl rfl (by omega)) ?_
     refine gas ?_
     refine g_nil ?_
     refine gk_then (gk_take 9 ?_)
     refine gk_sub ?hs_52 (hKL36 (k + 1) ?hi_52 ?hm_52)
     case hs_52 => repeat first | exact sub_nil | refine sub_cons rfl ?_
     case hi_52 => omega
     case hm_52 => omega
    try simp only [sA] at hs23_9
    refine gsk ?_
    refine gsk ?_
    refine gvh (qt_pick_f rfl rfl rfl) ?_
    refine gv (qt_pick_f rfl rfl rfl) ?_
    refine gm ?_
    refine gvh (qt_move rfl rfl) ?_
    refine g_splitv (.held _ _ _ rfl rfl rfl) rfl rfl (qt_move rfl rfl) (fun hs23_16 => ?_) (fun hs23_16 => ?_)
    ·try simp only [sA] at hs23_16
     refine gvh (qt_move rfl rfl) ?_
     refine gvh (qt_not rfl rfl) ?_
     refine gvh (qt_pick_t rfl rfl rfl) ?_
     refine gv (qt_pick_f rfl rfl rfl) ?_
     refine gnt (hK48 _ _ ?_)
     refine gc_cond rfl (fun hc6 => ?_) (fun hc6 => ?_)
     ·try simp only [sA] at hc6
      refine gc_sr fun K53 hK53 => ?_
      refine gas ?_
      refine gnt (hK53 _ _ ?_)
      refine gc_ret ?_
      refine gk_block_ret ?_
      refine gk_then_ret ?_
      refine gk_then_ret ?_
      refine gk_block_ret ?_
      refine gk_then_ret ?_
      refine ret_1 rfl rfl  (fun w M => ?_)
      first | exact ⟨rfl, M.1⟩ | (exfalso; first | omega | exact bP_f' (by assumption) (hA (bP_t' (by assumption)) (bP_t' (by assumption))) | exact bP_f' (by assumption) (hB (bP_t' (by assumption))) | exact bP_f' (by assumption) (hrm (by omega)))
     try simp only [sA] at hc6
     refine gc_skip ?_
     refine gk_block ?_
     refine gk_then (hK39 _ _ ?_)
     refine gc_region ?_
     refine gm ?_
     refine gv (qt_add rfl rfl rfl (by omega)) ?_
     refine gas ?_
     refine g_nil ?_
     refine gk_then (gk_take 9 ?_)
     refine gk_sub ?hs_54 (hKL36 (k + 1) ?hi_54 ?hm_54)
     case hs_54 => repeat first | exact sub_nil | refine sub_cons rfl ?_
     case hi_54 => omega
     case hm_54 => omega
    try simp only [sA] at hs23_16
    refine gsk ?_
    refine gsk ?_
    refine gvh (qt_pick_f rfl rfl rfl) ?_
    refine gv (qt_pick_f rfl rfl rfl) ?_
    refine gnt (hK48 _ _ ?_)
    refine gc_cond_f rfl ?_
    refine gc_skip ?_
    refine gk_block ?_
    refine gk_then (hK39 _ _ ?_)
    refine gc_region ?_
    refine gm ?_
    refine gv (qt_add rfl rfl rfl (by omega)) ?_
    refine gas ?_
    refine g_nil ?_
    refine gk_then (gk_take 9 ?_)
    refine gk_sub ?hs_55 (hKL36 (k + 1) ?hi_55 ?hm_55)
    case hs_55 => repeat first | exact sub_nil | refine sub_cons rfl ?_
    case hi_55 => omega
    case hm_55 => omega
   try simp only [sA] at hs23_6
   refine gsk ?_
   refine gvh (qt_pick_f rfl rfl rfl) ?_
   refine gvh (qt_move rfl rfl) ?_
   refine gsk ?_
   refine gsk ?_
   refine gvh (qt_pick_f rfl rfl rfl) ?_
   refine gv (qt_pick_f rfl rfl rfl) ?_
   refine gm ?_
   refine gvh (qt_move rfl rfl) ?_
   refine g_splitv (.held _ _ _ rfl rfl rfl) rfl rfl (qt_move rfl rfl) (fun hs23_16 => ?_) (fun hs23_16 => ?_)
   ·try simp only [sA] at hs23_16
    refine gvh (qt_move rfl rfl) ?_
    refine gvh (qt_not rfl rfl) ?_
    refine gvh (qt_pick_t rfl rfl rfl) ?_
    refine gv (qt_pick_f rfl rfl rfl) ?_
    refine gnt (hK48 _ _ ?_)
    refine gc_cond rfl (fun hc7 => ?_) (fun hc7 => ?_)
    ·try simp only [sA] at hc7
     refine gc_sr fun K56 hK56 => ?_
     refine gas ?_
     refine gnt (hK56 _ _ ?_)
     refine gc_ret ?_
     refine gk_block_ret ?_
     refine gk_then_ret ?_
     refine gk_then_ret ?_
     refine gk_block_ret ?_
     refine gk_then_ret ?_
     refine ret_1 rfl rfl  (fun w M => ?_)
     first | exact ⟨rfl, M.1⟩ | (exfalso; first | omega | exact bP_f' (by assumption) (hA (bP_t' (by assumption)) (bP_t' (by assumption))) | exact bP_f' (by assumption) (hB (bP_t' (by assumption))) | exact bP_f' (by assumption) (hrm (by omega)))
    try simp only [sA] at hc7
    refine gc_skip ?_
    refine gk_block ?_
    refine gk_then (hK39 _ _ ?_)
    refine gc_region ?_
    refine gm ?_
    refine gv (qt_add rfl rfl rfl (by omega)) ?_
    refine gas ?_
    refine g_nil ?_
    refine gk_then (gk_take 9 ?_)
    refine gk_sub ?hs_57 (hKL36 (k + 1) ?hi_57 ?hm_57)
    case hs_57 => repeat first | exact sub_nil | refine sub_cons rfl ?_
    case hi_57 => omega
    case hm_57 => omega
   try simp only [sA] at hs23_16
   refine gsk ?_
   refine gsk ?_
   refine gvh (qt_pick_f rfl rfl rfl) ?_
   refine gv (qt_pick_f rfl rfl rfl) ?_
   refine gnt (hK48 _ _ ?_)
   refine gc_cond_f rfl ?_
   refine gc_skip ?_
   refine gk_block ?_
   refine gk_then (hK39 _ _ ?_)
   refine gc_region ?_
   refine gm ?_
   refine gv (qt_add rfl rfl rfl (by omega)) ?_
   refine gas ?_
   refine g_nil ?_
   refine gk_then (gk_take 9 ?_)
   refine gk_sub ?hs_58 (hKL36 (k + 1) ?hi_58 ?hm_58)
   case hs_58 => repeat first | exact sub_nil | refine sub_cons rfl ?_
   case hi_58 => omega
   case hm_58 => omega
  try simp only [sA] at hc3
  refine gc_exit ?_
  refine gk_then_exit ?_
  refine gk_then_exit ?_
  refine gk_block_hit ?_
  refine gk_then (hK34 _ _ ?_)
  refine gc_sr fun K59 hK59 => ?_
  refine gas ?_
  refine gnt (hK59 _ _ ?_)
  refine gc_ret ?_
  refine ret_1 rfl rfl  (fun w M => ?_)
  first | exact ⟨rfl, M.1⟩ | (exfalso; first | omega | exact bP_f' (by assumption) (hA (bP_t' (by assumption)) (bP_t' (by assumption))) | exact bP_f' (by assumption) (hB (bP_t' (by assumption))) | exact bP_f' (by assumption) (hrm (by omega)))
 try simp only [sA] at hs13_15
 refine gsk ?_
 refine gsk ?_
 refine gvh (qt_pick_f rfl rfl rfl) ?_
 refine gv (qt_pick_f rfl rfl rfl) ?_
 refine gnt (hK29 _ _ ?_)
 refine gc_cond_f rfl ?_
 refine gc_skip ?_
 refine gk_then (hK28 _ _ ?_)
 refine gc_sr fun K60 hK60 => ?_
 refine gm ?_
 refine gop fun K62 hK62 => ?_
 refine go_dicRoll rfl rfl rfl func12 rfl (by decide) rfl h ?_
 intro g
 refine hK62 _ _ ?_
 refine gas ?_
 refine gnt (hK60 _ _ ?_)
 refine gc_seq fun K63 hK63 => ?_
 refine gc_sr fun K64 hK64 => ?_
 refine gas ?_
 refine gnt (hK64 _ _ ?_)
 refine gc_block ?_
 try simp only [sL]
 refine gc_loopT ([(0, _), (3, _), (4, _), (5, _), (6, _), (7, _), (8, _), (9, _), (10, _), (11, _), (12, _), (13, _), (14, _), (15, _), (23, _), (48, _), (50, _), (89, _)] : Env) (fun s : Nat => (fun (k : Nat) => (([(16, .int .i64 (k : Int))] : Env), ([] : List (Nat × Itm)), k ≤ 6, 6 - k)) s) (0) (by repeat first | exact sub_nil | refine sub_cons rfl ?_) rfl (Nat.zero_le _) ?_
 rintro k hinv KL65 hKL65
 simp only [sU, sL] at hinv hKL65 ⊢
 have hk := hinv
 refine gc_seq fun K66 hK66 => ?_
 refine gc_sr fun K67 hK67 => ?_
 refine gm ?_
 refine gv (qt_lss rfl rfl rfl) ?_
 refine gnt (hK67 _ _ ?_)
 refine gc_cond rfl (fun hc8 => ?_) (fun hc8 => ?_)
 ·try simp only [sA] at hc8
  refine gc_skip ?_
  refine gk_then (hK66 _ _ ?_)
  refine gc_seq fun K68 hK68 => ?_
  refine gc_block ?_
  refine gc_sr fun K69 hK69 => ?_
  refine gm ?_
  refine gv (qtf underlying27 (z := 0) (off := 1)) ?_
  refine gv (qtl underlying24 (n := 1)) ?_
  refine gv (qln (fun w M => lenV_rd (RdC.l1 (mem_held (n := 0) M rfl)))) ?_
  refine gop fun K71 hK71 => ?_
  refine go_dicNext (n := 8) rfl rfl rfl func13 rfl (by decide) rfl h rfl (by omega) ?_
  intro r hr
  refine hK71 _ _ ?_
  refine gas ?_
  refine gnt (hK69 _ _ ?_)
  refine gc_seq fun K72 hK72 => ?_
  refine gc_seq fun K73 hK73 => ?_
  have hr0 : (r : Int) < c.s.length := by omega
  refine gc_draw (by kernel_rfl) ?_
  refine gdv (qtf underlying27 (z := 0) (off := 1)) ?_
  refine gdv (qtl underlying24 (n := 1)) ?_
  refine gdv (qt_move rfl rfl) ?_
  refine gdv (qti (fun w M => lenA_rd (RdC.l1 (mem_held (n := 0) M rfl)))) ?_
  refine gdv (qtd (fun w M => RdC.l1 (mem_held (n := 0) M rfl))) ?_
  refine gdv (qtf underlying27 (z := 0) (off := 2)) ?_
  refine gdv (qtl underlying24 (n := 1)) ?_
  refine gdv (qt_move rfl rfl) ?_
  refine gdv (qti (fun w M => lenA_rd (RdC.l2 (mem_held (n := 0) M rfl)))) ?_
  refine gdv (qtd (fun w M => RdC.l2 (mem_held (n := 0) M rfl))) ?_
  refine gdv (qt_neq rfl rfl rfl) ?_
  refine gd_nil ?_
  refine gk_then (hK73 _ _ ?_)
  refine gc_cond rfl (fun hc9 => ?_) (fun hc9 => ?_)
  ·try simp only [sA] at hc9
   refine gc_exit ?_
   refine gk_then_exit ?_
   refine gk_block_hit ?_
   refine gk_then (hK68 _ _ ?_)
   refine gc_region ?_
   refine gm ?_
   refine gv (qt_add rfl rfl rfl (by omega)) ?_
   refine gas ?_
   refine g_nil ?_
   refine gk_then (gk_take 9 ?_)
   refine gk_sub ?hs_74 (hKL65 (k + 1) ?hi_74 ?hm_74)
   case hs_74 => repeat first | exact sub_nil | refine sub_cons rfl ?_
   case hi_74 => omega
   case hm_74 => omega
  try simp only [sA] at hc9
  refine gc_skip ?_
  refine gk_then (hK72 _ _ ?_)
  refine gc_seq fun K75 hK75 => ?_
  have hth := th_ends hS f0 f1 (g := (r : Int)) (by omega) (by omega) (by omega)
  have ht0 := hth.1.1; have ht1 := hth.1.2
  have HN := fun (w : World) (v : Value) (h1 : RdC w v c) => impl_IsMono w v c (r : Int) h1
  simp only [IsMono_t (arrErr_t hcat (allP_one.2 ⟨(by omega : 0 ≤ (r : Int)), (by omega : (r : Int) < c.s.length)⟩))] at HN
  have HB := fun (w : World) (v : Value) (h1 : RdC w v c) => impl_IsMono w v c (c.th f (r : Int)) h1
  simp only [IsMono_t (arrErr_t hcat (allP_one.2 ⟨ht0, ht1⟩))] at HB
  have hA := mono_comp hC f0 f1 (g := (r : Int)) (by omega) (by omega) (by omega)
  have hB := mono_back hC f0 f1 (g := (r : Int)) (by omega) (by omega) (by omega)
  refine gc_region ?_
  refine gv (qts underlying27 (n := 1)) ?_
  refine gm ?_
  refine g_q (.free rfl) rfl rfl (qt_call rfl func7 rfl (by decide) rfl (fun w M => HN w _ (mem_held (n := 0) M rfl))) ?_
  refine gm ?_
  refine gv (qt_extract rfl rfl rfl) ?_
  refine gv (qt_extract rfl rfl rfl) ?_
  refine gas ?_
  refine gas ?_
  refine gnt (hK75 _ _ ?_)
  refine gc_seq fun K76 hK76 => ?_
  refine gc_draw (by kernel_rfl) ?_
  refine gdv (qts underlying27 (n := 1)) ?_
  refine gdv (qts underlying27 (n := 1)) ?_
  refine gdv (qt_move rfl rfl) ?_
  refine gdv (qt_move rfl rfl) ?_
  refine gd_q (.free rfl) rfl rfl (qt_call rfl func14 rfl (by decide) rfl (fun w M => then9_any w _ _ _ _ (mem_held (n := 0) M rfl) (by first | assumption | omega) (by first | assumption | omega) (by first | assumption | omega) (by first | assumption | omega) (by first | assumption | omega))) ?_
  refine gd_q (.free rfl) rfl rfl (qt_call rfl func7 rfl (by decide) rfl (fun w M => HB w _ (mem_held (n := 0) M rfl))) ?_
  refine gdv (qt_move rfl rfl) ?_
  refine gdv (qt_extract rfl rfl rfl) ?_
  refine gdv (qt_extract rfl rfl rfl) ?_
  refine gdv (qt_assign rfl rfl) ?_
  refine gdv (qt_assign rfl rfl) ?_
  refine gd_nil ?_
  refine gk_then (hK76 _ _ ?_)
  refine gc_sr fun K77 hK77 => ?_
  refine gm ?_
  refine gm ?_
  refine gv (qt_add rfl rfl rfl (by omega)) ?_
  refine gv (qt_neq_f rfl rfl rfl (fun h => h rfl)) ?_
  refine gm ?_
  refine gvh (qt_move rfl rfl) ?_
  refine g_splitv (.held _ _ _ rfl rfl rfl) rfl rfl (qt_move rfl rfl) (fun hs23_6 => ?_) (fun hs23_6 => ?_)
  ·try simp only [sA] at hs23_6
   refine gvh (qt_move rfl rfl) ?_
   refine gvh (qt_pick_t rfl rfl rfl) ?_
   refine g_splitv (.held _ _ _ rfl rfl rfl) rfl rfl (qt_move rfl rfl) (fun hs23_9 => ?_) (fun hs23_9 => ?_)
   ·try simp only [sA] at hs23_9
    refine gvh (qt_move rfl rfl) ?_
    refine gvh (qt_not rfl rfl) ?_
    refine gvh (qt_pick_t rfl rfl rfl) ?_
    refine gv (qt_pick_f rfl rfl rfl) ?_
    refine g_splitv (.free rfl) rfl rfl (qt_move rfl rfl) (fun hs23_14 => ?_) (fun hs23_14 => ?_)
    ·try simp only [sA] at hs23_14
     refine gsk ?_
     refine gsk ?_
     refine g_skipU rfl rfl rfl rfl rfl ?_
     refine g_skipU rfl rfl rfl rfl rfl ?_
     refine gsk ?_
     refine gv (qt_pick_t rfl rfl rfl) ?_
     refine gnt (hK77 _ _ ?_)
     refine gc_cond_t rfl ?_
     refine gc_sr fun K78 hK78 => ?_
     refine gas ?_
     refine gnt (hK78 _ _ ?_)
     refine gc_ret ?_
     refine gk_block_ret ?_
     refine gk_then_ret ?_
     refine gk_then_ret ?_
     refine gk_block_ret ?_
     refine gk_then_ret ?_
     refine ret_1 rfl rfl  (fun w M => ?_)
     first | exact ⟨rfl, M.1⟩ | (exfalso; first | omega | exact bP_f' (by assumption) (hA (bP_t' (by assumption)) (bP_t' (by assumption))) | exact bP_f' (by assumption) (hB (bP_t' (by assumption))) | exact bP_f' (by assumption) (hrm (by omega)))
    try simp only [sA] at hs23_14
    refine gvh (qt_move rfl rfl) ?_
    refine g_splitv (.held _ _ _ rfl rfl rfl) rfl rfl (qt_move rfl rfl) (fun hs23_16 => ?_) (fun hs23_16 => ?_)
    ·try simp only [sA] at hs23_16
     refine gvh (qt_move rfl rfl) ?_
     refine gvh (qt_not rfl rfl) ?_
     refine gvh (qt_pick_t rfl rfl rfl) ?_
     refine gv (qt_pick_f rfl rfl rfl) ?_
     refine gnt (hK77 _ _ ?_)
     refine gc_cond rfl (fun hc10 => ?_) (fun hc10 => ?_)
     ·try simp only [sA] at hc10
      refine gc_sr fun K79 hK79 => ?_
      refine gas ?_
      refine gnt (hK79 _ _ ?_)
      refine gc_ret ?_
      refine gk_block_ret ?_
      refine gk_then_ret ?_
      refine gk_then_ret ?_
      refine gk_block_ret ?_
      refine gk_then_ret ?_
      refine ret_1 rfl rfl  (fun w M => ?_)
      first | exact ⟨rfl, M.1⟩ | (exfalso; first | omega | exact bP_f' (by assumption) (hA (bP_t' (by assumption)) (bP_t' (by assumption))) | exact bP_f' (by assumption) (hB (bP_t' (by assumption))) | exact bP_f' (by assumption) (hrm (by omega)))
     try simp only [sA] at hc10
     refine gc_skip ?_
     refine gk_block ?_
     refine gk_then (hK68 _ _ ?_)
     refine gc_region ?_
     refine gm ?_
     refine gv (qt_add rfl rfl rfl (by omega)) ?_
     refine gas ?_
     refine g_nil ?_
     refine gk_then (gk_take 9 ?_)
     refine gk_sub ?hs_80 (hKL65 (k + 1) ?hi_80 ?hm_80)
     case hs_80 => repeat first | exact sub_nil | refine sub_cons rfl ?_
     case hi_80 => omega
     case hm_80 => omega
    try simp only [sA] at hs23_16
    refine gsk ?_
    refine gsk ?_
    refine gvh (qt_pick_f rfl rfl rfl) ?_
    refine gv (qt_pick_f rfl rfl rfl) ?_
    refine gnt (hK77 _ _ ?_)
    refine gc_cond_f rfl ?_
    refine gc_skip ?_
    refine gk_block ?_
    refine gk_then (hK68 _ _ ?_)
    refine gc_region ?_
    refine gm ?_
    refine gv (qt_add rfl rfl rfl (by omega)) ?_
    refine gas ?_
    refine g_nil ?_
    refine gk_then (gk_take 9 ?_)
    refine gk_sub ?hs_81 (hKL65 (k + 1) ?hi_81 ?hm_81)
    case hs_81 => repeat first | exact sub_nil | refine sub_cons rfl ?_
    case hi_81 => omega
    case hm_81 => omega
   try simp only [sA] at hs23_9
   refine gsk ?_
   refine gsk ?_
   refine gvh (qt_pick_f rfl rfl rfl) ?_
   refine gv (qt_pick_f rfl rfl rfl) ?_
   refine gm ?_
   refine gvh (qt_move rfl rfl) ?_
   refine g_splitv (.held _ _ _ rfl rfl rfl) rfl rfl (qt_move rfl rfl) (fun hs23_16 => ?_) (fun hs23_16 => ?_)
   ·try simp only [sA] at hs23_16
    refine gvh (qt_move rfl rfl) ?_
    refine gvh (qt_not rfl rfl) ?_
    refine gvh (qt_pick_t rfl rfl rfl) ?_
    refine gv (qt_pick_f rfl rfl rfl) ?_
    refine gnt (hK77 _ _ ?_)
    refine gc_cond rfl (fun hc11 => ?_) (fun hc11 => ?_)
    ·try simp only [sA] at hc11
     refine gc_sr fun K82 hK82 => ?_
     refine gas ?_
     refine gnt (hK82 _ _ ?_)
     refine gc_ret ?_
     refine gk_block_ret ?_
     refine gk_then_ret ?_
     refine gk_then_ret ?_
     refine gk_block_ret ?_
     refine gk_then_ret ?_
     refine ret_1 rfl rfl  (fun w M => ?_)
     first | exact ⟨rfl, M.1⟩ | (exfalso; first | omega | exact bP_f' (by assumption) (hA (bP_t' (by assumption)) (bP_t' (by assumption))) | exact bP_f' (by assumption) (hB (bP_t' (by assumption))) | exact bP_f' (by assumption) (hrm (by omega)))
    try simp only [sA] at hc11
    refine gc_skip ?_
    refine gk_block ?_
    refine gk_then (hK68 _ _ ?_)
    refine gc_region ?_
    refine gm ?_
    refine gv (qt_add rfl rfl rfl (by omega)) ?_
    refine gas ?_
    refine g_nil ?_
    refine gk_then (gk_take 9 ?_)
    refine gk_sub ?hs_83 (hKL65 (k + 1) ?hi_83 ?hm_83)
    case hs_83 => repeat first | exact sub_nil | refine sub_cons rfl ?_
    case hi_83 => omega
    case hm_83 => omega
   try simp only [sA] at hs23_16
   refine gsk ?_
   refine gsk ?_
   refine gvh (qt_pick_f rfl rfl rfl) ?_
   refine gv (qt_pick_f rfl rfl rfl) ?_
   refine gnt (hK77 _ _ ?_)
   refine gc_cond_f rfl ?_
   refine gc_skip ?_
   refine gk_block ?_
   refine gk_then (hK68 _ _ ?_)
   refine gc_region ?_
   refine gm ?_
   refine gv (qt_add rfl rfl rfl (by omega)) ?_
   refine gas ?_
   refine g_nil ?_
   refine gk_then (gk_take 9 ?_)
   refine gk_sub ?hs_84 (hKL65 (k + 1) ?hi_84 ?hm_84)
   case hs_84 => repeat first | exact sub_nil | refine sub_cons rfl ?_
   case hi_84 => omega
   case hm_84 => omega
  try simp only [sA] at hs23_6
  refine gsk ?_
  refine gvh (qt_pick_f rfl rfl rfl) ?_
  refine gvh (qt_move rfl rfl) ?_
  refine gsk ?_
  refine gsk ?_
  refine gvh (qt_pick_f rfl rfl rfl) ?_
  refine gv (qt_pick_f rfl rfl rfl) ?_
  refine gm ?_
  refine gvh (qt_move rfl rfl) ?_
  refine g_splitv (.held _ _ _ rfl rfl rfl) rfl rfl (qt_move rfl rfl) (fun hs23_16 => ?_) (fun hs23_16 => ?_)
  ·try simp only [sA] at hs23_16
   refine gvh (qt_move rfl rfl) ?_
   refine gvh (qt_not rfl rfl) ?_
   refine gvh (qt_pick_t rfl rfl rfl) ?_
   refine gv (qt_pick_f rfl rfl rfl) ?_
   refine gnt (hK77 _ _ ?_)
   refine gc_cond rfl (fun hc12 => ?_) (fun hc12 => ?_)
   ·try simp only [sA] at hc12
    refine gc_sr fun K85 hK85 => ?_
    refine gas ?_
    refine gnt (hK85 _ _ ?_)
    refine gc_ret ?_
    refine gk_block_ret ?_
    refine gk_then_ret ?_
    refine gk_then_ret ?_
    refine gk_block_ret ?_
    refine gk_then_ret ?_
    refine ret_1 rfl rfl  (fun w M => ?_)
    first | exact ⟨rfl, M.1⟩ | (exfalso; first | omega | exact bP_f' (by assumption) (hA (bP_t' (by assumption)) (bP_t' (by assumption))) | exact bP_f' (by assumption) (hB (bP_t' (by assumption))) | exact bP_f' (by assumption) (hrm (by omega)))
   try simp only [sA] at hc12
   refine gc_skip ?_
   refine gk_block ?_
   refine gk_then (hK68 _ _ ?_)
   refine gc_region ?_
   refine gm ?_
   refine gv (qt_add rfl rfl rfl (by omega)) ?_
   refine gas ?_
   refine g_nil ?_
   refine gk_then (gk_take 9 ?_)
   refine gk_sub ?hs_86 (hKL65 (k + 1) ?hi_86 ?hm_86)
   case hs_86 => repeat first | exact sub_nil | refine sub_cons rfl ?_
   case hi_86 => omega
   case hm_86 => omega
  try simp only [sA] at hs23_16
  refine gsk ?_
  refine gsk ?_
  refine gvh (qt_pick_f rfl rfl rfl) ?_
  refine gv (qt_pick_f rfl rfl rfl) ?_
  refine gnt (hK77 _ _ ?_)
  refine gc_cond_f rfl ?_
  refine gc_skip ?_
  refine gk_block ?_
  refine gk_then (hK68 _ _ ?_)
  refine gc_region ?_
  refine gm ?_
  refine gv (qt_add rfl rfl rfl (by omega)) ?_
  refine gas ?_
  refine g_nil ?_
  refine gk_then (gk_take 9 ?_)
  refine gk_sub ?hs_87 (hKL65 (k + 1) ?hi_87 ?hm_87)
  case hs_87 => repeat first | exact sub_nil | refine sub_cons rfl ?_
  case hi_87 => omega
  case hm_87 => omega
 try simp only [sA] at hc8
 refine gc_exit ?_
 refine gk_then_exit ?_
 refine gk_then_exit ?_
 refine gk_block_hit ?_
 refine gk_then (hK63 _ _ ?_)
 refine gc_sr fun K88 hK88 => ?_
 refine gas ?_
 refine gnt (hK88 _ _ ?_)
 refine gc_ret ?_
 refine ret_1 rfl rfl  (fun w M => ?_)
 first | exact ⟨rfl, M.1⟩ | (exfalso; first | omega | exact bP_f' (by assumption) (hA (bP_t' (by assumption)) (bP_t' (by assumption))) | exact bP_f' (by assumption) (hB (bP_t' (by assumption))) | exact bP_f' (by assumption) (hrm (by omega)))
end Go.Proofs.Ytbiplocgenppoaa
namespace Go.Proofs.Ytbiplocgenppoaa
open _root_.Go.Proofs.Try
open Go.RowKit
open Go.ChangeShapes Go.WideShapes Go.ChangeAt
theorem cells8 : Try.prog.cellsOf 5 = 1 := by kernel_rfl
theorem open_inb {H : Type} {enc : TypeId × Value → H} {w : World} {v : Value} {d : DataW H} {ps : List MemPlace} {base : Nat}
    (hv : Value.okWide Try.prog w .any base 22 v) (h : DataW.Trod enc Try.prog w 0 (fun _ => true) true 22 v d ps) : InB w v := by
  obtain ⟨a0, len, cap, rfl⟩ := okWide_slice underlying22 hv
  obtain ⟨fuel, hf⟩ := h
  rcases open_ints underlying22 underlying5 cells8 hf with ⟨hcs, _⟩ | ⟨a, len', cap', zs, hcs, _, hl, hm, hz, _, hcell, hwz⟩
  · simp [Value.cells] at hcs
    obtain ⟨rfl, rfl, rfl⟩ := hcs
    exact ⟨none, 0, 0, rfl, by omega, fun j hj => absurd hj (Nat.not_lt_zero _)⟩
  simp [Value.cells] at hcs
  obtain ⟨rfl, rfl, rfl⟩ := hcs
  simp only [if_true] at hz
  refine ⟨some a, len, cap, rfl, by unfold maxLen at hm; omega, fun j hj => ?_⟩
  obtain ⟨b, off, spot⟩ := a
  have hspot : spot = none := by simpa [Addr.add] using World.cell?_spot (hcell 0 (by omega))
  subst hspot
  refine ⟨b, off, rfl, World.block_lt_of_cell? w _ (by simpa using hcell 0 (by omega)), fun i hi => ?_⟩
  have hh := hcell i (by omega)
  rw [Addr.add_lit] at hh
  have hw := hwz (zs.getD i 0) (by rw [List.getD_eq_getElem?_getD, List.getElem?_eq_getElem (by omega)]; exact List.getElem_mem _)
  refine ⟨_, hh, ?_⟩
  have hw2 : IntKind.u8.min ≤ zs.getD i 0 ∧ zs.getD i 0 ≤ IntKind.u8.max := by simpa [Lit.wf] using hw
  have m1 : IntKind.u8.min = 0 := by decide
  have m2 : IntKind.u8.max = 255 := by decide
  omega
end Go.Proofs.Ytbiplocgenppoaa
