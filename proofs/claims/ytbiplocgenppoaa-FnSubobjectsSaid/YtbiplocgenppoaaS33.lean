import Derived.Test.YtbiplocgenppoaaS13
import Derived.Test.YtbiplocgenppoaaS15
import Derived.Test.YtbiplocgenppoaaS32
set_option maxHeartbeats 8000000
set_option maxRecDepth 100000
set_option linter.unusedSimpArgs false
set_option linter.unusedVariables false
set_option linter.unusedSectionVars false
namespace Go.Proofs.Ytbiplocgenppoaa
open _root_.Go.Proofs.Try
open Go.RowKit
theorem kind_tm (c : Cat) (f : Int) : kindN c f % 2 = 1 ↔ monoP c f := by
 obtain ⟨q, ⟨h, hm⟩ | ⟨h, hm⟩⟩ := kind_odd c f
 ·rw [h]; exact ⟨fun _ => hm, fun _ => by omega⟩
 rw [h]; exact ⟨fun e => absurd e (by omega), fun e => absurd e hm⟩
theorem kind_rng (c : Cat) (f : Int) : 0 ≤ kindN c f ∧ kindN c f ≤ 31 := by
 have key : ∀ (b1 b2 b3 b4 b5 : Bool), 0 ≤ addK (addK (addK (addK (addK 0 1 b1) 2 b2) 4 b3) 8 b4) 16 b5 ∧ addK (addK (addK (addK (addK 0 1 b1) 2 b2) 4 b3) 8 b4) 16 b5 ≤ 31 := by
  intro b1 b2 b3 b4 b5
  cases b1 <;> cases b2 <;> cases b3 <;> cases b4 <;> cases b5 <;> simp [addK]
 exact key _ _ _ _ _
theorem offR_stS (rows : List (List Int)) (k : Nat) : ((offR rows k : Nat) : Int) + ((row2 rows (k : Int)).length : Int) = ((offR rows (k + 1) : Nat) : Int) := by
 show _ = (((offR rows k + (rows.getD k []).length : Nat)) : Int)
 rw [row2, Int.toNat_natCast]; omega
theorem monL_in {c : Cat} {x y : Int} {k : Nat} (h : y ∈ monL c x k) : 0 ≤ y ∧ y < k ∧ at0 c.t y = x ∧ monoP c y := by
 obtain ⟨j, h1, h2, rfl⟩ := filTo_mem.1 h
 exact ⟨by omega, by omega, h2.1, h2.2⟩
theorem sub_0 {c : Cat} {x e : Int} {L : List (List Int)} (h : fSubobjectsOf c x = (L, e)) (he : e = 0) : IsCat c ∧ L = clsR (belP c) (monL c x c.s.length) := by
 by_cases hE : objErr c [x] = 0
 ·rw [SubobjectsOf_t hE] at h; exact ⟨(objErr_0 hE).1, (Prod.mk.inj h).1.symm⟩
 rw [SubobjectsOf_e hE] at h; exact absurd ((Prod.mk.inj h).2.trans he) hE
theorem at_memS {xs : List Int} {k : Nat} (hk : k < xs.length) : at0 xs (k : Int) ∈ xs := by rw [at0_nat]; exact mem_getD hk
theorem bigS_any (w : World) (a : Option Addr) (len cap : Nat) (hl : len ≤ 9223372036854775807) : Calls Try.prog 5 #[.slice a len cap] w (RetB w (decide (4096 < (len : Int)))) := by
 go_enter func5, Try.ntmps5
 go_wp2
 go_ret
 exact ⟨by simp, (Below.refl _ _)⟩
section
variable {w0 : World} {is : List Itm} {ops : Array Oper} {Q : Exit → Act → World → Prop} {o : Oper} {rest : List Oper} {N : Frm} {e : Env} {v : Value} {d : Nat} {K : Act → World → Prop} {f : FuncId} {fn : Func} {ags : Array Operand} {ts : Array TypeId} {vs : List Value}
theorem go_callRI {xs : List (List Int)} {c : Int} (hd : o.dst = some d) (hN : Nat.blt d N = true) (hop : o.op = .call { callee := .value (.func f), args := ags, argTypes := ts }) (hfn : Try.prog.funcs[f]? = some fn) (hb : fn.body.isNone = false) (hn : (fn.name == "runtime.NumGoroutine") = false)
  (hargs : evoL e ags.toList = some vs) (hc : ∀ w, Mem w0 w is → Calls Try.prog f vs.toArray w (RetRI w xs c)) (hk : ∀ a cap us, GK w0 (is ++ [own2U (.slice a xs.length cap) us xs]) N K ((d, .tuple #[.slice a xs.length cap, .int .i64 c]) :: e)) : GO w0 is N o e Q K := by
 intro w a M F
 refine go_call hd hN F hop hfn hb hn hargs (hc w M) fun e' w' hR => ?_
 obtain ⟨v, rfl, hs, hbl⟩ := hR
 obtain ⟨va, vc, rfl⟩ := rd2_form (sl2_rd hs)
 obtain ⟨us, hu⟩ := own2_of hs
 exact ⟨_, rfl, fun a F => hk va vc us w' a (mem_new M hbl hu) F⟩
end
theorem same29_any (w : World) (v : Value) (rows : List (List Int)) (u : Value) (h : Rd2 w v rows) (e : Rd2 w u rows) :
  Calls Try.prog 18 #[v, u] w (RetB w true) := by
 obtain ⟨va, vc, rfl⟩ := rd2_form h
 obtain ⟨ua, uc, rfl⟩ := rd2_form e
 have hrl : rows.length ≤ 5000000000000 := by obtain ⟨_, _, _, hl, _⟩ := h; exact hl
 go_enter func18, Try.ntmps18
 refine gc_enter (N := 27) rfl (look_cons (k := 0) rfl (look_cons (k := 1) rfl (look_nil _))) ?_
 refine gc_sr fun K1 hK1 => ?_
 refine gas ?_
 refine gnt (hK1 _ _ ?_)
 refine gc_seq fun K2 hK2 => ?_
 refine gc_sr fun K3 hK3 => ?_
 refine gm ?_
 refine gv (qt_len rfl rfl ulE2 (fun w M => lenV_rd2 h)) ?_
 refine gm ?_
 refine gv (qt_len rfl rfl ulE2 (fun w M => lenV_rd2 e)) ?_
 refine gv (qt_neq_f rfl rfl rfl (fun h => h rfl)) ?_
 refine gnt (hK3 _ _ ?_)
 refine gc_cond_f rfl ?_
 refine gc_skip ?_
 refine gk_then (hK2 _ _ ?_)
 refine gc_seq fun K4 hK4 => ?_
 refine gc_sr fun K5 hK5 => ?_
 refine gas ?_
 refine gnt (hK5 _ _ ?_)
 refine gc_block ?_
 try simp only [sL]
 refine gc_loopT ([(0, _), (1, _), (10, _)] : Env) (fun s : Nat => (fun (k : Nat) => (([(5, .int .i64 (k : Int))] : Env), ([] : List (Nat × Itm)), k ≤ rows.length, rows.length - k)) s) (0) (by repeat first | exact sub_nil | refine sub_cons rfl ?_) rfl (Nat.zero_le _) ?_
 rintro k hinv KL6 hKL6
 simp only [sU, sL] at hinv hKL6 ⊢
 have hk := hinv
 refine gc_seq fun K7 hK7 => ?_
 refine gc_sr fun K8 hK8 => ?_
 refine gm ?_
 refine gm ?_
 refine gv (qt_len rfl rfl ulE2 (fun w M => lenV_rd2 h)) ?_
 refine gv (qt_lss rfl rfl rfl) ?_
 refine gnt (hK8 _ _ ?_)
 refine gc_cond rfl (fun hc0 => ?_) (fun hc0 => ?_)
 ·try simp only [sA] at hc0
  refine gc_skip ?_
  refine gk_then (hK7 _ _ ?_)
  refine gc_seq fun K9 hK9 => ?_
  refine gc_block ?_
  refine gc_seq fun K10 hK10 => ?_
  refine gc_draw (by kernel_rfl) ?_
  refine gdv (qt_move rfl rfl) ?_
  refine gdv (qt_move rfl rfl) ?_
  refine gdv (qti2 (fun w M => lenA_rd2 h)) ?_
  refine gd_load2 (.free rfl) rfl rfl rfl rfl underlying24 rfl h (by omega) (by omega) ?_
  intro ra11 rc11 hr11
  refine gdv (qt_move rfl rfl) ?_
  refine gdv (qt_move rfl rfl) ?_
  refine gdv (qti2 (fun w M => lenA_rd2 e)) ?_
  refine gd_load2 (.free rfl) rfl rfl rfl rfl underlying24 rfl e (by omega) (by omega) ?_
  intro ra12 rc12 hr12
  refine gd_q (.free rfl) rfl rfl (qt_call rfl func46 rfl (by decide) rfl (fun w M => like_refl_any w _ _ _ (mem_rd M hr11) (mem_rd M hr12))) ?_
  refine gdv (qt_not rfl rfl) ?_
  refine gd_nil ?_
  refine gk_then (hK10 _ _ ?_)
  refine gc_cond_f rfl ?_
  refine gc_skip ?_
  refine gk_block ?_
  refine gk_then (hK9 _ _ ?_)
  refine gc_region ?_
  refine gm ?_
  refine gv (qt_add rfl rfl rfl (by omega)) ?_
  refine gas ?_
  refine g_nil ?_
  refine gk_then (gk_take 0 ?_)
  refine gk_sub ?hs_13 (hKL6 (k + 1) ?hi_13 ?hm_13)
  case hs_13 => repeat first | exact sub_nil | refine sub_cons rfl ?_
  case hi_13 => omega
  case hm_13 => omega
 try simp only [sA] at hc0
 refine gc_exit ?_
 refine gk_then_exit ?_
 refine gk_then_exit ?_
 refine gk_block_hit ?_
 refine gk_then (hK4 _ _ ?_)
 refine gc_sr fun K14 hK14 => ?_
 refine gas ?_
 refine gnt (hK14 _ _ ?_)
 refine gc_ret ?_
 refine ret_1 rfl rfl  (fun w M => ?_)
 exact ⟨rfl, M.1⟩
theorem subWalk (w : World) (ca : Option Addr) (clen ccap : Nat) (h : InB w (.slice ca clen ccap)) (hcl : clen ≤ 9223372036854775807) :
  Calls Try.prog 4 #[.slice ca clen ccap] w (RetB w true) := by
 go_enter func4, Try.ntmps4
 refine gc_enter (N := 159) rfl (look_cons (k := 0) rfl (look_nil _)) ?_
 refine gc_sr fun K1 hK1 => ?_
 refine gas ?_
 refine gnt (hK1 _ _ ?_)
 refine gc_seq fun K2 hK2 => ?_
 refine gc_sr fun K3 hK3 => ?_
 refine gm ?_
 refine g_q (.free rfl) rfl rfl (qt_call rfl func5 rfl (by decide) rfl (fun w M => bigS_any w _ _ _ (by first | assumption | omega))) ?_
 refine gnt (hK3 _ _ ?_)
 refine gc_cond rfl (fun hc0 => ?_) (fun hc0 => ?_)
 ·try simp only [sA] at hc0
  refine gc_sr fun K4 hK4 => ?_
  refine gas ?_
  refine gnt (hK4 _ _ ?_)
  refine gc_ret ?_
  refine gk_then_ret ?_
  refine ret_1 rfl rfl  (fun w M => ?_)
  first | exact ⟨rfl, M.1⟩ | (exfalso; omega) | (have e : i = L.length := (by omega); subst e; rw [htot]; exact ⟨by simp, M.1⟩)
 try simp only [sA] at hc0
 refine gc_skip ?_
 refine gk_then (hK2 _ _ ?_)
 refine gc_sr fun K5 hK5 => ?_
 refine gm ?_
 refine gop fun K7 hK7 => ?_
 refine go_callHV (α := Int) (P := fun c x => DrawP c ∧ NumP x) (V := fun x v => .tuple #[v, .int .i64 x]) rfl rfl rfl func15 rfl (by decide) rfl (fun w M => drawSubobjectsOf_any w ca clen ccap (inb_below M.1 h)) ?_
 intro c x ca1 cb1 cc1 cd1 ce1 cf1 cg1 ch1 hdraw
 refine hK7 _ _ ?_
 refine gm ?_
 refine gv (qt_extract rfl rfl rfl) ?_
 refine gv (qt_extract rfl rfl rfl) ?_
 refine gop fun K9 hK9 => ?_
 refine galC ?_
 intro B8
 refine hK9 _ _ ?_
 refine gop fun K10 hK10 => ?_
 refine gss 1 ?_
 refine hK10 _ _ ?_
 refine gas ?_
 refine gnt (hK5 _ _ ?_)
 refine gc_seq fun K11 hK11 => ?_
 obtain ⟨L, e1, hP⟩ : ∃ L e1, fSubobjectsOf c x = (L, e1) := ⟨_, _, rfl⟩
 have HPi := fun (w : World) (v : Value) (h1 : RdC w v c) => impl_SubobjectsOf w v c x h1
 simp only [hP] at HPi
 have HPs := fun (w : World) (v : Value) (h1 : RdC w v c) => spec_SubobjectsOf w v c x h1
 simp only [hP] at HPs
 refine gc_region ?_
 refine gv (qts underlying27 (n := 1)) ?_
 refine gm ?_
 refine gop fun K13 hK13 => ?_
 refine go_callRI rfl rfl rfl func16 rfl (by decide) rfl (fun w M => HPi w _ (mem_held (n := 0) M rfl)) ?_
 intro va12 vc12 us12
 refine hK13 _ _ ?_
 refine gm ?_
 refine gv (qt_extract rfl rfl rfl) ?_
 refine gv (qt_extract rfl rfl rfl) ?_
 refine gas ?_
 refine gas ?_
 refine gnt (hK11 _ _ ?_)
 refine gc_sr fun K14 hK14 => ?_
 refine gv (qts underlying27 (n := 1)) ?_
 refine gm ?_
 refine gop fun K16 hK16 => ?_
 refine go_callRI rfl rfl rfl func17 rfl (by decide) rfl (fun w M => HPs w _ (mem_held (n := 0) M rfl)) ?_
 intro va15 vc15 us15
 refine hK16 _ _ ?_
 refine gm ?_
 refine gv (qt_extract rfl rfl rfl) ?_
 refine gv (qt_extract rfl rfl rfl) ?_
 refine gas ?_
 refine gas ?_
 refine gnt (hK14 _ _ ?_)
 refine gc_seq fun K17 hK17 => ?_
 refine gc_sr fun K18 hK18 => ?_
 refine gm ?_
 refine gm ?_
 refine gv (qt_neq_f rfl rfl rfl (fun h => h rfl)) ?_
 refine gm ?_
 refine gvh (qt_move rfl rfl) ?_
 refine gvh (qt_move rfl rfl) ?_
 refine g_q (.held _ _ _ rfl rfl rfl) rfl rfl (qt_call rfl func18 rfl (by decide) rfl (fun w M => same29_any w _ _ _ (mem_rdU (n := 2) M rfl) (mem_rdU (n := 3) M rfl))) ?_
 refine gvh (qt_not rfl rfl) ?_
 refine gv (qt_pick_f rfl rfl rfl) ?_
 refine gnt (hK18 _ _ ?_)
 refine gc_cond_f rfl ?_
 refine gc_skip ?_
 refine gk_then (hK17 _ _ ?_)
 refine gc_seq fun K19 hK19 => ?_
 refine gc_sr fun K20 hK20 => ?_
 refine gm ?_
 refine gv (qt_neq rfl rfl rfl) ?_
 refine gnt (hK20 _ _ ?_)
 refine gc_cond rfl (fun hc1 => ?_) (fun hc1 => ?_)
 ·try simp only [sA] at hc1
  refine gc_sr fun K21 hK21 => ?_
  refine gas ?_
  refine gnt (hK21 _ _ ?_)
  refine gc_ret ?_
  refine gk_then_ret ?_
  refine ret_1 rfl rfl  (fun w M => ?_)
  first | exact ⟨rfl, M.1⟩ | (exfalso; omega) | (have e : i = L.length := (by omega); subst e; rw [htot]; exact ⟨by simp, M.1⟩)
 try simp only [sA] at hc1
 refine gc_skip ?_
 refine gk_then (hK19 _ _ ?_)
 refine gc_seq fun K22 hK22 => ?_
 obtain ⟨hC, hL⟩ := sub_0 hP (by omega)
 have hS := hC.toShapeP
 have hn40 := hS.n40; have htl := hS.tl
 have hcat : fIsCategory c = true := bP_t hC
 have hSI : SubI (belP c) (monL c x c.s.length) L := by rw [hL]; exact sub_cls _ _
 have htot : offR L L.length = (monL c x c.s.length).length := by rw [offR_all, hSI.tot]
 have hml := monL_len c x c.s.length
 have hLl : L.length ≤ c.s.length := by rw [hL]; exact Nat.le_trans (cls_len _ _) hml
 have hkl : (tabTo (fun f => kindN c (f : Int)) c.s.length).length = c.s.length := tabTo_len _ _
 have HK := fun (w : World) (v : Value) (h1 : RdC w v c) => impl_ArrowKinds w v c h1
 simp only [ArrowKinds_t hcat] at HK
 refine gc_region ?_
 refine gv (qts underlying27 (n := 1)) ?_
 refine gop fun K24 hK24 => ?_
 refine go_callLI rfl rfl rfl func19 rfl (by decide) rfl (fun w M => HK w _ (mem_held (n := 0) M rfl)) ?_
 intro va23 vc23
 refine hK24 _ _ ?_
 refine gm ?_
 refine gv (qt_extract rfl rfl rfl) ?_
 refine gv (qt_extract rfl rfl rfl) ?_
 refine gas ?_
 refine gas ?_
 refine gnt (hK22 _ _ ?_)
 refine gc_seq fun K25 hK25 => ?_
 refine gc_sr fun K26 hK26 => ?_
 refine gm ?_
 refine gv (qt_neq_f rfl rfl rfl (fun h => h rfl)) ?_
 refine gm ?_
 refine gvh (qt_move rfl rfl) ?_
 refine gvh (qln (fun w M => lenV_own1 (n := 4) rfl M)) ?_
 refine gvh (qtf underlying27 (z := 0) (off := 1)) ?_
 refine gvh (qtl underlying24 (n := 1)) ?_
 refine gvh (qln (fun w M => lenV_rd (RdC.l1 (mem_held (n := 0) M rfl)))) ?_
 refine gvh (qt_neq_f rfl rfl rfl (fun h => h (by rw [tabTo_len]))) ?_
 refine gv (qt_pick_f rfl rfl rfl) ?_
 refine gnt (hK26 _ _ ?_)
 refine gc_cond_f rfl ?_
 refine gc_skip ?_
 refine gk_then (hK25 _ _ ?_)
 refine gc_sr fun K27 hK27 => ?_
 refine gas ?_
 refine gas ?_
 refine gnt (hK27 _ _ ?_)
 refine gc_seq fun K28 hK28 => ?_
 refine gc_sr fun K29 hK29 => ?_
 refine gas ?_
 refine gnt (hK29 _ _ ?_)
 refine gc_block ?_
 try simp only [sL]
 refine gc_loopT ([(0, _), (2, _), (3, _), (4, _), (5, _), (6, _), (7, _), (8, _), (9, _), (10, _), (12, _), (19, _), (45, _), (47, _), (62, _)] : Env) (fun s : Nat => (fun (k : Nat) => (([(11, .int .i64 (((monL c x k).length : Nat) : Int)), (13, .int .i64 (k : Int))] : Env), ([] : List (Nat × Itm)), k ≤ c.s.length, c.s.length - k)) s) (0) (by repeat first | exact sub_nil | refine sub_cons rfl ?_) rfl (Nat.zero_le _) ?_
 rintro k hinv KL30 hKL30
 simp only [sU, sL] at hinv hKL30 ⊢
 have hk := hinv
 have hmk := monL_len c x k
 refine gc_seq fun K31 hK31 => ?_
 refine gc_sr fun K32 hK32 => ?_
 refine gm ?_
 refine gm ?_
 refine gv (qln (fun w M => lenV_own1 (n := 4) rfl M)) ?_
 refine gv (qt_lss rfl rfl rfl) ?_
 refine gnt (hK32 _ _ ?_)
 refine gc_cond rfl (fun hc2 => ?_) (fun hc2 => ?_)
 ·try simp only [sA] at hc2
  refine gc_skip ?_
  refine gk_then (hK31 _ _ ?_)
  refine gc_seq fun K33 hK33 => ?_
  refine gc_block ?_
  refine gc_seq fun K34 hK34 => ?_
  have hkn : at0 (tabTo (fun f => kindN c (f : Int)) c.s.length) (k : Int) = kindN c (k : Int) := tabTo_at _ (by omega)
  have hkr := kind_rng c (k : Int)
  rw [← hkn] at hkr
  have hkr1 := hkr.1; have hkr2 := hkr.2
  refine gc_region ?_
  refine gv (qtf underlying27 (z := 0) (off := 2)) ?_
  refine gv (qtl underlying24 (n := 1)) ?_
  refine gm ?_
  refine gv (qti (fun w M => lenA_rd (RdC.l2 (mem_held (n := 0) M rfl)))) ?_
  refine gv (qtd (fun w M => RdC.l2 (mem_held (n := 0) M rfl))) ?_
  refine gm ?_
  refine gv (qt_eql rfl rfl rfl) ?_
  refine g_splitv (.free rfl) rfl rfl (qt_move rfl rfl) (fun hs17_7 => ?_) (fun hs17_7 => ?_)
  ·try simp only [sA] at hs17_7
   refine gvh (qt_move rfl rfl) ?_
   refine gvh (qt_move rfl rfl) ?_
   refine gvh (qti (fun w M => lenA_own1 (n := 4) rfl M)) ?_
   refine gvh (qtd (fun w M => (mem_own1 (n := 4) M rfl).rd)) ?_
   refine gvh (qt_rem rfl rfl rfl (by omega) (by omega) (by omega)) ?_
   refine gvh (qt_eql rfl rfl rfl) ?_
   refine gv (qt_pick_t rfl rfl rfl) ?_
   refine gnt (hK34 _ _ ?_)
   refine gc_cond rfl (fun hc3 => ?_) (fun hc3 => ?_)
   ·try simp only [sA] at hc3
    refine gc_region ?_
    refine gm ?_
    refine gv (qt_add rfl rfl rfl (by omega)) ?_
    refine gas ?_
    refine g_nil ?_
    refine gk_block ?_
    refine gk_then (hK33 _ _ ?_)
    refine gc_region ?_
    refine gm ?_
    refine gv (qt_add rfl rfl rfl (by omega)) ?_
    refine gas ?_
    refine g_nil ?_
    rw [show (((monL c x k).length : Nat) : Int) + 1 = (((monL c x (k + 1)).length : Nat) : Int) from by rw [← monL_t hs17_7 ((kind_tm c _).1 (by rw [← hkn]; exact hc3)), List.length_append]; rfl]
    refine gk_then (gk_take 5 ?_)
    refine gk_sub ?hs_35 (hKL30 (k + 1) ?hi_35 ?hm_35)
    case hs_35 => repeat first | exact sub_nil | refine sub_cons rfl ?_
    case hi_35 => omega
    case hm_35 => omega
   try simp only [sA] at hc3
   refine gc_skip ?_
   refine gk_block ?_
   refine gk_then (hK33 _ _ ?_)
   refine gc_region ?_
   refine gm ?_
   refine gv (qt_add rfl rfl rfl (by omega)) ?_
   refine gas ?_
   refine g_nil ?_
   rw [monL_f (k := k) (fun hq => hc3 (by rw [hkn]; exact (kind_tm c _).2 hq.2))]
   refine gk_then (gk_take 5 ?_)
   refine gk_sub ?hs_36 (hKL30 (k + 1) ?hi_36 ?hm_36)
   case hs_36 => repeat first | exact sub_nil | refine sub_cons rfl ?_
   case hi_36 => omega
   case hm_36 => omega
  try simp only [sA] at hs17_7
  refine gsk ?_
  refine gsk ?_
  refine gsk ?_
  refine gsk ?_
  refine gsk ?_
  refine gsk ?_
  refine gv (qt_pick_f rfl rfl rfl) ?_
  refine gnt (hK34 _ _ ?_)
  refine gc_cond_f rfl ?_
  refine gc_skip ?_
  refine gk_block ?_
  refine gk_then (hK33 _ _ ?_)
  refine gc_region ?_
  refine gm ?_
  refine gv (qt_add rfl rfl rfl (by omega)) ?_
  refine gas ?_
  refine g_nil ?_
  rw [monL_f (k := k) (fun hq => hs17_7 hq.1)]
  refine gk_then (gk_take 5 ?_)
  refine gk_sub ?hs_37 (hKL30 (k + 1) ?hi_37 ?hm_37)
  case hs_37 => repeat first | exact sub_nil | refine sub_cons rfl ?_
  case hi_37 => omega
  case hm_37 => omega
 try simp only [sA] at hc2
 refine gc_exit ?_
 refine gk_then_exit ?_
 refine gk_then_exit ?_
 refine gk_block_hit ?_
 refine gk_then (hK28 _ _ ?_)
 refine gc_seq fun K38 hK38 => ?_
 refine gc_seq fun K39 hK39 => ?_
 obtain rfl : k = c.s.length := by omega
 refine gc_region ?_
 refine gas ?_
 refine gnt (hK39 _ _ ?_)
 refine gc_block ?_
 try simp only [sL]
 refine gc_loopT ([(0, _), (3, _), (4, _), (5, _), (6, _), (7, _), (8, _), (9, _), (10, _), (11, _), (13, _), (19, _), (45, _), (47, _), (62, _), (66, _)] : Env) (fun s : Nat => (fun (i : Nat) => (([(12, .int .i64 ((offR L i : Nat) : Int)), (14, .int .i64 (i : Int))] : Env), ([] : List (Nat × Itm)), i ≤ L.length, L.length - i)) s) (0) (by repeat first | exact sub_nil | refine sub_cons rfl ?_) rfl (Nat.zero_le _) ?_
 rintro i hinv KL40 hKL40
 simp only [sU, sL] at hinv hKL40 ⊢
 have hi := hinv
 have ho1 := offR_mono L i L.length hi
 refine gc_seq fun K41 hK41 => ?_
 refine gc_sr fun K42 hK42 => ?_
 refine gm ?_
 refine gm ?_
 refine gv (qt_len rfl rfl ulE2 (fun w M => lenV_U (n := 2) rfl M)) ?_
 refine gv (qt_lss rfl rfl rfl) ?_
 refine gnt (hK42 _ _ ?_)
 refine gc_cond rfl (fun hc4 => ?_) (fun hc4 => ?_)
 ·try simp only [sA] at hc4
  refine gc_skip ?_
  refine gk_then (hK41 _ _ ?_)
  refine gc_seq fun K43 hK43 => ?_
  refine gc_block ?_
  refine gc_seq fun K44 hK44 => ?_
  have ho2 := offR_mono L (i + 1) L.length (by omega)
  have ho3 := offR_stS L i
  refine gc_region ?_
  refine gm ?_
  refine gm ?_
  refine gm ?_
  refine gv (qti2 (fun w M => lenA_U (n := 2) rfl M)) ?_
  refine gv (qt_loadU (n := 2) rfl rfl underlying24 rfl rfl (by omega) (by omega)) ?_
  refine gv (qt_len rfl rfl ulE1 (fun w M => lenV_row (n := 2) rfl (by omega) (by omega) M)) ?_
  refine gv (qt_add rfl rfl rfl (by omega)) ?_
  refine gas ?_
  refine gnt (hK44 _ _ ?_)
  refine gc_sr fun K45 hK45 => ?_
  refine gas ?_
  refine gnt (hK45 _ _ ?_)
  refine gc_block ?_
  try simp only [sL]
  refine gc_loopT ([(0, _), (3, _), (4, _), (5, _), (6, _), (7, _), (8, _), (9, _), (10, _), (11, _), (12, _), (13, _), (14, _), (19, _), (45, _), (47, _), (62, _), (66, _), (89, _)] : Env) (fun s : Nat => (fun (j : Nat) => (([(15, .int .i64 (j : Int))] : Env), ([] : List (Nat × Itm)), 1 ≤ j, (row2 L (i : Int)).length - j)) s) (1) (by repeat first | exact sub_nil | refine sub_cons rfl ?_) rfl (Nat.le_refl _) ?_
  rintro j hinv KL46 hKL46
  simp only [sU, sL] at hinv hKL46 ⊢
  have hj := hinv
  refine gc_seq fun K47 hK47 => ?_
  refine gc_sr fun K48 hK48 => ?_
  refine gm ?_
  refine gm ?_
  refine gm ?_
  refine gv (qti2 (fun w M => lenA_U (n := 2) rfl M)) ?_
  refine gv (qt_loadU (n := 2) rfl rfl underlying24 rfl rfl (by omega) (by omega)) ?_
  refine gv (qt_len rfl rfl ulE1 (fun w M => lenV_row (n := 2) rfl (by omega) (by omega) M)) ?_
  refine gv (qt_lss rfl rfl rfl) ?_
  refine gnt (hK48 _ _ ?_)
  refine gc_cond rfl (fun hc5 => ?_) (fun hc5 => ?_)
  ·try simp only [sA] at hc5
   refine gc_skip ?_
   refine gk_then (hK47 _ _ ?_)
   refine gc_seq fun K49 hK49 => ?_
   refine gc_block ?_
   refine gc_seq fun K50 hK50 => ?_
   have hil : i < L.length := by omega
   have hmm := monL_in (hSI.mem i hil _ (at_memS (xs := (row2 L (i : Int))) (k := j) (by omega)))
   have hhm := monL_in (hSI.mem i hil _ (head_in (hSI.ne i hil)))
   have hmu := hSI.mu i hil j (by omega) (by omega)
   have m1 := hmm.1; have m2 := hmm.2.1; have h1 := hhm.1; have h2 := hhm.2.1
   obtain ⟨p, hp, hsol, hk31⟩ := lift_one hC m1 m2 h1 h2 hmm.2.2.2 hhm.2.2.2 hmu.1 hmu.2
   have HL := fun (w : World) (v : Value) (h1 : RdC w v c) => impl_LiftsOf w v c (at0 (row2 L (i : Int)) (j : Int)) (at0 (row2 L (i : Int)) 0) h1
   simp only [LiftsOf_t (arrErr_t hcat (allP_two.2 ⟨⟨m1, m2⟩, h1, h2⟩)) (hmm.2.2.1.trans hhm.2.2.1.symm), hsol] at HL
   have hp0 : at0 [(p : Int)] 0 = (p : Int) := rfl
   have hpl : [(p : Int)].length = 1 := rfl
   have hkp : at0 (tabTo (fun f => kindN c (f : Int)) c.s.length) (at0 [(p : Int)] 0) = 31 := by rw [hp0, tabTo_at _ hp]; exact hk31
   try simp only [sL]
   refine ga_start _ (fun w M => M) ?_
   refine gav 0 rfl (qts underlying27 (n := 1)) ?_
   refine gav 1 rfl (qt_move rfl rfl) ?_
   refine gav 2 rfl (qt_move rfl rfl) ?_
   refine gav 3 rfl (qti2 (fun w M => lenA_U (n := 2) rfl M)) ?_
   refine gav 4 rfl (qt_loadU (n := 2) rfl rfl underlying24 rfl rfl (by omega) (by omega)) ?_
   refine gav 5 rfl (qt_move rfl rfl) ?_
   refine gav 6 rfl (qt_index rfl rfl rfl ulE1 szE1 (fun w M => lenA_row (n := 2) rfl (by omega) (by omega) M) (by omega) (by omega)) ?_
   refine gav 7 rfl (qt_load1 rfl rfl underlying2 rfl (fun w M => mem_rowU (n := 2) M rfl (by omega) (by omega)) (by omega) (by omega)) ?_
   refine gav 8 rfl (qt_move rfl rfl) ?_
   refine gav 9 rfl (qt_move rfl rfl) ?_
   refine gav 10 rfl (qti2 (fun w M => lenA_U (n := 2) rfl M)) ?_
   refine gav 11 rfl (qt_loadU (n := 2) rfl rfl underlying24 rfl rfl (by omega) (by omega)) ?_
   refine gav 12 rfl (qt_index rfl rfl rfl ulE1 szE1 (fun w M => lenA_row (n := 2) rfl (by omega) (by omega) M) (by omega) (by omega)) ?_
   refine gav 13 rfl (qt_load1 rfl rfl underlying2 rfl (fun w M => mem_rowU (n := 2) M rfl (by omega) (by omega)) (by omega) (by omega)) ?_
   refine gao 14 fun K52 hK52 => ?_
   refine go_callLI rfl rfl rfl func20 rfl (by decide) rfl (fun w M => HL w _ (mem_held (n := 0) M rfl)) ?_
   intro va51 vc51
   refine hK52 _ _ (fun w M => (mem_take 5 M :)) ?_
   refine gav 15 rfl (qt_move rfl rfl) ?_
   refine gav 16 rfl (qt_extract rfl rfl rfl) ?_
   refine gav 17 rfl (qt_extract rfl rfl rfl) ?_
   refine gav 18 rfl (qt_assign rfl rfl) ?_
   refine gav 19 rfl (qt_assign rfl rfl) ?_
   refine ga_done (by kernel_rfl) ?_
   refine gk_then (hK50 _ _ ?_)
   refine gc_sr fun K53 hK53 => ?_
   refine gm ?_
   refine gv (qt_neq_f rfl rfl rfl (fun h => h rfl)) ?_
   refine gm ?_
   refine gvh (qt_move rfl rfl) ?_
   refine gvh (qln (fun w M => lenV_own1 (n := 5) rfl M)) ?_
   refine gvh (qt_neq_f rfl rfl rfl (fun h => h rfl)) ?_
   refine gv (qt_pick_f rfl rfl rfl) ?_
   refine gm ?_
   refine gvh (qt_move rfl rfl) ?_
   refine gvh (qti (fun w M => lenA_own1 (n := 5) rfl M)) ?_
   refine gvh (qtd (fun w M => (mem_own1 (n := 5) M rfl).rd)) ?_
   refine gvh (qt_lss rfl rfl rfl) ?_
   refine gv (qt_pick_f rfl rfl rfl) ?_
   refine g_splitv (.free rfl) rfl rfl (qt_move rfl rfl) (fun hs27_13 => ?_) (fun hs27_13 => ?_)
   ·try simp only [sA] at hs27_13
    refine gsk ?_
    refine gsk ?_
    refine gsk ?_
    refine gsk ?_
    refine gsk ?_
    refine gsk ?_
    refine gv (qt_pick_t rfl rfl rfl) ?_
    refine gm ?_
    refine gsk ?_
    refine gsk ?_
    refine gsk ?_
    refine gsk ?_
    refine gsk ?_
    refine gsk ?_
    refine gsk ?_
    refine gv (qt_pick_t rfl rfl rfl) ?_
    refine gnt (hK53 _ _ ?_)
    refine gc_cond_t rfl ?_
    refine gc_sr fun K54 hK54 => ?_
    refine gas ?_
    refine gnt (hK54 _ _ ?_)
    refine gc_ret ?_
    refine gk_block_ret ?_
    refine gk_then_ret ?_
    refine gk_then_ret ?_
    refine gk_block_ret ?_
    refine gk_block_ret ?_
    refine gk_then_ret ?_
    refine gk_then_ret ?_
    refine gk_block_ret ?_
    refine gk_then_ret ?_
    refine ret_1 rfl rfl  (fun w M => ?_)
    first | exact ⟨rfl, M.1⟩ | (exfalso; omega) | (have e : i = L.length := (by omega); subst e; rw [htot]; exact ⟨by simp, M.1⟩)
   try simp only [sA] at hs27_13
   refine gvh (qt_move rfl rfl) ?_
   refine gvh (qti (fun w M => lenA_own1 (n := 5) rfl M)) ?_
   refine gvh (qtd (fun w M => (mem_own1 (n := 5) M rfl).rd)) ?_
   refine gvh (qt_move rfl rfl) ?_
   refine gvh (qln (fun w M => lenV_own1 (n := 4) rfl M)) ?_
   refine gvh (qt_geq rfl rfl rfl) ?_
   refine gv (qt_pick_f rfl rfl rfl) ?_
   refine g_splitv (.free rfl) rfl rfl (qt_move rfl rfl) (fun hs27_21 => ?_) (fun hs27_21 => ?_)
   ·try simp only [sA] at hs27_21
    refine gsk ?_
    refine gsk ?_
    refine gsk ?_
    refine gsk ?_
    refine gsk ?_
    refine gsk ?_
    refine gsk ?_
    refine gv (qt_pick_t rfl rfl rfl) ?_
    refine gnt (hK53 _ _ ?_)
    refine gc_cond_t rfl ?_
    refine gc_sr fun K55 hK55 => ?_
    refine gas ?_
    refine gnt (hK55 _ _ ?_)
    refine gc_ret ?_
    refine gk_block_ret ?_
    refine gk_then_ret ?_
    refine gk_then_ret ?_
    refine gk_block_ret ?_
    refine gk_block_ret ?_
    refine gk_then_ret ?_
    refine gk_then_ret ?_
    refine gk_block_ret ?_
    refine gk_then_ret ?_
    refine ret_1 rfl rfl  (fun w M => ?_)
    first | exact ⟨rfl, M.1⟩ | (exfalso; omega) | (have e : i = L.length := (by omega); subst e; rw [htot]; exact ⟨by simp, M.1⟩)
   try simp only [sA] at hs27_21
   refine gvh (qt_move rfl rfl) ?_
   refine gvh (qt_move rfl rfl) ?_
   refine gvh (qti (fun w M => lenA_own1 (n := 5) rfl M)) ?_
   refine gvh (qtd (fun w M => (mem_own1 (n := 5) M rfl).rd)) ?_
   refine gvh (qti (fun w M => lenA_own1 (n := 4) rfl M)) ?_
   refine gvh (qtd (fun w M => (mem_own1 (n := 4) M rfl).rd)) ?_
   refine gvh (qt_neq rfl rfl rfl) ?_
   refine gv (qt_pick_f rfl rfl rfl) ?_
   refine gnt (hK53 _ _ ?_)
   refine gc_cond rfl (fun hc6 => ?_) (fun hc6 => ?_)
   ·try simp only [sA] at hc6
    refine gc_sr fun K56 hK56 => ?_
    refine gas ?_
    refine gnt (hK56 _ _ ?_)
    refine gc_ret ?_
    refine gk_block_ret ?_
    refine gk_then_ret ?_
    refine gk_then_ret ?_
    refine gk_block_ret ?_
    refine gk_block_ret ?_
    refine gk_then_ret ?_
    refine gk_then_ret ?_
    refine gk_block_ret ?_
    refine gk_then_ret ?_
    refine ret_1 rfl rfl  (fun w M => ?_)
    first | exact ⟨rfl, M.1⟩ | (exfalso; omega) | (have e : i = L.length := (by omega); subst e; rw [htot]; exact ⟨by simp, M.1⟩)
   try simp only [sA] at hc6
   refine gc_skip ?_
   refine gk_block ?_
   refine gk_then (hK49 _ _ ?_)
   refine gc_region ?_
   refine gm ?_
   refine gv (qt_add rfl rfl rfl (by omega)) ?_
   refine gas ?_
   refine g_nil ?_
   refine gk_then (gk_take 5 ?_)
   refine gk_sub ?hs_57 (hKL46 (j + 1) ?hi_57 ?hm_57)
   case hs_57 => repeat first | exact sub_nil | refine sub_cons rfl ?_
   case hi_57 => omega
   case hm_57 => omega
  try simp only [sA] at hc5
  refine gc_exit ?_
  refine gk_then_exit ?_
  refine gk_then_exit ?_
  refine gk_block_hit ?_
  refine gk_block ?_
  refine gk_then (hK43 _ _ ?_)
  refine gc_region ?_
  refine gm ?_
  refine gv (qt_add rfl rfl rfl (by omega)) ?_
  refine gas ?_
  refine g_nil ?_
  rw [offR_stS]
  refine gk_then (gk_take 5 ?_)
  refine gk_sub ?hs_58 (hKL40 (i + 1) ?hi_58 ?hm_58)
  case hs_58 => repeat first | exact sub_nil | refine sub_cons rfl ?_
  case hi_58 => omega
  case hm_58 => omega
 try simp only [sA] at hc4
 refine gc_exit ?_
 refine gk_then_exit ?_
 refine gk_then_exit ?_
 refine gk_block_hit ?_
 refine gk_then (hK38 _ _ ?_)
 refine gc_sr fun K59 hK59 => ?_
 refine gm ?_
 refine gm ?_
 refine gv (qt_eql rfl rfl rfl) ?_
 refine gas ?_
 refine gnt (hK59 _ _ ?_)
 refine gc_ret ?_
 refine ret_1 rfl rfl  (fun w M => ?_)
 first | exact ⟨rfl, M.1⟩ | (exfalso; omega) | (have e : i = L.length := (by omega); subst e; rw [htot]; exact ⟨by simp, M.1⟩)
end Go.Proofs.Ytbiplocgenppoaa
