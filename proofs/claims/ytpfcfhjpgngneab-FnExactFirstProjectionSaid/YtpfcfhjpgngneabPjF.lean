
/- The projections of a product: both sides. -/
import Derived.Test.YtpfcfhjpgngneabShort
import Derived.Test.YtpfcfhjpgngneabPrL
import Derived.Test.YtpfcfhjpgngneabFunL
import Derived.Test.YtpfcfhjpgngneabProdI
import Derived.Test.YtpfcfhjpgngneabThE
set_option linter.unusedSimpArgs false
set_option linter.unusedVariables false
set_option linter.unusedSectionVars false
namespace Go.Proofs.Ytpfcfhjpgngneab
open Go.RowKit


noncomputable def pj1 (c d : Cat) : Fct := ⟨prodM c d, c, prL (fun a _ => a) (numL c.ob.toNat) (numL d.ob.toNat), prL (fun a _ => a) (numL c.s.length) (numL d.s.length)⟩
noncomputable def pj2 (c d : Cat) : Fct := ⟨prodM c d, d, prL (fun _ b => b) (numL c.ob.toNat) (numL d.ob.toNat), prL (fun _ b => b) (numL c.s.length) (numL d.s.length)⟩
noncomputable def pjF (c d : Cat) (F : Fct) : Fct × Int := if twoErr c d = 0 then (if bP (FitP (prodM c d)) = true then (F, 0) else (fct0, 3)) else (fct0, 1)
noncomputable def fFirstProjection (c d : Cat) : Fct × Int := pjF c d (pj1 c d)
noncomputable def fSecondProjection (c d : Cat) : Fct × Int := pjF c d (pj2 c d)
theorem pj_t {c d : Cat} {F : Fct} (h : twoErr c d = 0) (h' : FitP (prodM c d)) : pjF c d F = (F, 0) := by unfold pjF; rw [if_pos h, if_pos (bP_t h')]
theorem pj_l {c d : Cat} {F : Fct} (h : twoErr c d = 0) (h' : ¬ FitP (prodM c d)) : pjF c d F = (fct0, 3) := by unfold pjF; rw [if_pos h, if_neg (by rw [bP_f h']; decide)]
theorem pj_f {c d : Cat} {F : Fct} (h : ¬ twoErr c d = 0) : pjF c d F = (fct0, 1) := if_neg h
theorem mz_prod2 {c d : Cat} (h : fIsCategory c = true) (h' : fIsCategory d = true) (hf : FitP (prodM c d)) : mzC (prodM c d) ≤ 1152921504606846 := by have := bound_ProductCategory c d; rwa [prd_t h h' hf] at this
theorem pj_bound {c d : Cat} {F : Fct} (hS : F.S = prodM c d) (hT : F.T = c ∨ F.T = d) (ho : F.o.length = (numL d.ob.toNat).length * (numL c.ob.toNat).length) (ha : F.a.length = (numL d.s.length).length * (numL c.s.length).length) : mzF (pjF c d F).1 ≤ 3500000000000000 := by
 by_cases h : twoErr c d = 0
 ·by_cases h' : FitP (prodM c d)
  ·have hh := twoErr_0 h
   have h1 := mz_prod2 hh.1 hh.2 h'
   have sc := (isCat_of hh.1).toShapeP; have sd := (isCat_of hh.2).toShapeP
   have c1 := sc.ob8; have c2 := sc.n40; have d1 := sd.ob8; have d2 := sd.n40
   have e1 := mul_40 (m := d.ob.toNat) (k := c.ob.toNat) (by omega) (by omega); have e2 := mul_40 (m := d.s.length) (k := c.s.length) d2 c2
   rw [numL_len, numL_len] at ho ha
   have h2 : mzC F.T ≤ 1720 := by rcases hT with e | e <;> rw [e]; exact mz_cat hh.1; exact mz_cat hh.2
   rw [pj_t h h']
   show mzC F.S + mzC F.T + F.o.length + F.a.length ≤ _
   rw [hS, ho, ha]; omega
  ·rw [pj_l h h']; show mzF fct0 ≤ _; decide
 ·rw [pj_f h]; show mzF fct0 ≤ _; decide
theorem bound_FirstProjection (c d : Cat) : mzF (fFirstProjection c d).1 ≤ 3500000000000000 := pj_bound (F := pj1 c d) rfl (.inl rfl) (prL_len (fun a _ => a) (numL c.ob.toNat) (numL d.ob.toNat)) (prL_len (fun a _ => a) (numL c.s.length) (numL d.s.length))
theorem bound_SecondProjection (c d : Cat) : mzF (fSecondProjection c d).1 ≤ 3500000000000000 := pj_bound (F := pj2 c d) rfl (.inr rfl) (prL_len (fun _ b => b) (numL c.ob.toNat) (numL d.ob.toNat)) (prL_len (fun _ b => b) (numL c.s.length) (numL d.s.length))
theorem prd2_0 {c d : Cat} (h : (fProductCategory c d).2 = 0) : twoErr c d = 0 ∧ FitP (prodM c d) := by
 have hh : fIsCategory c = true ∧ fIsCategory d = true := Classical.byContradiction fun hn => by rw [prd_n hn] at h; exact absurd h (by decide)
 refine ⟨twoErr_t hh.1 hh.2, Classical.byContradiction fun hn => ?_⟩
 rw [prd_l hh.1 hh.2 hn] at h; exact absurd h (by decide)
theorem prd2_n {c d : Cat} {F : Fct} (h : ¬ (fProductCategory c d).2 = 0) : pjF c d F = (fct0, (fProductCategory c d).2) := by
 by_cases hh : fIsCategory c = true ∧ fIsCategory d = true
 ·have hn : ¬ FitP (prodM c d) := fun hf => h (by rw [prd_t hh.1 hh.2 hf])
  rw [pj_l (twoErr_t hh.1 hh.2) hn, prd_l hh.1 hh.2 hn]
 ·rw [pj_f (by rw [twoErr_f hh]; decide), prd_n hh]
/-- The numbers of a product's first and second parts, as the model counts them. -/
theorem fst_num (n m : Nat) : tabTo (fun x => (x : Int) / (m : Int)) (n * m) = prL (fun a _ => a) (numL n) (numL m) := by
 unfold prL tab2
 rw [numL_len, numL_len]
 refine List.ext_getElem (by simp [tabTo, Nat.mul_comm]) fun k h1 h2 => ?_
 simp only [tabTo, List.length_map, List.length_range] at h1
 simp only [tabTo, List.getElem_map, List.getElem_range]
 have hm : 0 < m := Nat.pos_of_ne_zero fun h => by subst h; simp at h1
 rw [numL_at (show k / m < n from (Nat.div_lt_iff_lt_mul hm).2 h1)]
 omega
theorem snd_num (n m : Nat) : tabTo (fun x => (x : Int) % (m : Int)) (n * m) = prL (fun _ b => b) (numL n) (numL m) := by
 unfold prL tab2
 rw [numL_len, numL_len]
 refine List.ext_getElem (by simp [tabTo, Nat.mul_comm]) fun k h1 h2 => ?_
 simp only [tabTo, List.length_map, List.length_range] at h1
 simp only [tabTo, List.getElem_map, List.getElem_range]
 have hm : 0 < m := Nat.pos_of_ne_zero fun h => by subst h; simp at h1
 rw [numL_at (show k % m < m from Nat.mod_lt _ hm)]
 omega


theorem fst_numI {n m : Int} (hn : 0 ≤ n) (hm : 0 ≤ m) : tabTo (fun x => (x : Int) / m) (n * m).toNat = prL (fun a _ => a) (numL n.toNat) (numL m.toNat) := by
 obtain ⟨n, rfl⟩ := Int.eq_ofNat_of_zero_le hn
 obtain ⟨m, rfl⟩ := Int.eq_ofNat_of_zero_le hm
 rw [← Int.natCast_mul, Int.toNat_natCast, Int.toNat_natCast, Int.toNat_natCast]; exact fst_num n m
theorem snd_numI {n m : Int} (hn : 0 ≤ n) (hm : 0 ≤ m) : tabTo (fun x => (x : Int) % m) (n * m).toNat = prL (fun _ b => b) (numL n.toNat) (numL m.toNat) := by
 obtain ⟨n, rfl⟩ := Int.eq_ofNat_of_zero_le hn
 obtain ⟨m, rfl⟩ := Int.eq_ofNat_of_zero_le hm
 rw [← Int.natCast_mul, Int.toNat_natCast, Int.toNat_natCast, Int.toNat_natCast]; exact snd_num n m
theorem pjs_len (c d : Cat) : (prodM c d).s.length = c.s.length * d.s.length := by
 rw [Nat.mul_comm]; exact tab2_len (pdS c d) d.s.length c.s.length 0
noncomputable def Fpj (c d t : Cat) (φ : Int → Int → Int) : Fct := ⟨prodM c d, t, prL φ (numL c.ob.toNat) (numL d.ob.toNat), prL φ (numL c.s.length) (numL d.s.length)⟩


theorem tabTo_st (φ : Nat → Int) (k : Nat) : tabTo φ k ++ [φ k] = tabTo φ (k + 1) := tabTo_succ φ k

set_option maxHeartbeats 4000000 in
set_option maxRecDepth 100000 in
theorem specPj1_any (w : World) (v : Value) (c : Cat) (u : Value) (d : Cat) (h : RdC w v c) (e : RdC w u d) :
  Calls Try.prog 64 #[v, u, .bool false] w (RetFI w (pjF c d (pj1 c d)).1 (pjF c d (pj1 c d)).2) := by
 have h0 := h
 obtain ⟨va, vb, vc, vd, ve, vf, vg, vh, rfl, h1, h2, h3, h4, _⟩ := h.lists
 have e0 := e
 obtain ⟨ua, ub, uc, ud, ue, uf, ug, uh, rfl, e1, e2, e3, e4, _⟩ := e.lists
 go_enter Try.func64, Try.ntmps64
 refine gc_enter (N := 87) rfl (look_cons (k := 0) rfl (look_cons (k := 1) rfl (look_cons (k := 2) rfl (look_nil _)))) ?_
 refine gc_sr fun K1 hK1 => ?_
 refine gop fun K3 hK3 => ?_
 refine go_box rfl rfl rfl rfl rfl ?_
 intro B2
 refine hK3 _ _ ?_
 refine gop fun K5 hK5 => ?_
 refine go_box rfl rfl rfl rfl rfl ?_
 intro B4
 refine hK5 _ _ ?_
 refine gop fun K7 hK7 => ?_
 refine go_alloc (z := (.agg #[.int .i64 0, .slice none 0 0, .slice none 0 0, .slice none 0 0, .slice none 0 0, .int .i64 0, .slice none 0 0, .slice none 0 0, .slice none 0 0, .slice none 0 0, .slice none 0 0, .slice none 0 0])) (cs := [.int .i64 0, .slice none 0 0, .slice none 0 0, .slice none 0 0, .slice none 0 0, .int .i64 0, .slice none 0 0, .slice none 0 0, .slice none 0 0, .slice none 0 0, .slice none 0 0, .slice none 0 0]) rfl rfl rfl (fun w => by kernel_rfl) rfl ?_
 intro B6
 refine hK7 _ _ ?_
 refine gas ?_
 refine gnt (hK1 _ _ ?_)
 refine gc_seq fun K8 hK8 => ?_
 refine gc_sr fun K9 hK9 => ?_
 refine gv (qts Try.underlying29 (n := 0)) ?_
 refine g_q (.free rfl) rfl rfl (qt_call rfl Try.func104 rfl (by decide) rfl (fun w M => specIs_any w _ _ (mem_rdC M h0))) ?_
 refine gv (qt_not rfl rfl) ?_
 refine g_splitv (.free rfl) rfl rfl (qt_move rfl rfl) (fun hs1_3 => ?_) (fun hs1_3 => ?_)
 ·try simp only [sA] at hs1_3
  refine gsk ?_
  refine gsk ?_
  refine gsk ?_
  refine gv (qt_pick_t rfl rfl rfl) ?_
  refine gnt (hK9 _ _ ?_)
  refine gc_cond_t rfl ?_
  refine gc_sr fun K10 hK10 => ?_
  refine gv (qt_build rfl rfl bt0_Functor) ?_
  refine gop fun K11 hK11 => ?_
  refine go_storeS (n := 2) rfl rfl rfl rfl (by kernel_rfl) rfl rfl rfl ?_
  refine hK11 _ _ ?_
  refine gas ?_
  refine gnt (hK10 _ _ ?_)
  refine gc_ret ?_
  refine gk_then_ret ?_
  refine ret_SI (n := 2) rfl rfl rfl Try.underlying31 rfl (by kernel_rfl) rfl (fun w M => ?_)
  rw [pj_f (fun h => by rw [(twoErr_0 h).1] at hs1_3; simp at hs1_3)]; exact retFI_zero M.1
 ·try simp only [sA] at hs1_3
  refine gvh (qts Try.underlying29 (n := 1)) ?_
  refine g_q (.held _ _ _ rfl rfl rfl) rfl rfl (qt_call rfl Try.func104 rfl (by decide) rfl (fun w M => specIs_any w _ _ (mem_rdC M e0))) ?_
  refine gvh (qt_not rfl rfl) ?_
  refine gv (qt_pick_f rfl rfl rfl) ?_
  refine gnt (hK9 _ _ ?_)
  refine gc_cond rfl (fun hc0 => ?_) (fun hc0 => ?_)
  ·try simp only [sA] at hc0
   refine gc_sr fun K12 hK12 => ?_
   refine gv (qt_build rfl rfl bt0_Functor) ?_
   refine gop fun K13 hK13 => ?_
   refine go_storeS (n := 2) rfl rfl rfl rfl (by kernel_rfl) rfl rfl rfl ?_
   refine hK13 _ _ ?_
   refine gas ?_
   refine gnt (hK12 _ _ ?_)
   refine gc_ret ?_
   refine gk_then_ret ?_
   refine ret_SI (n := 2) rfl rfl rfl Try.underlying31 rfl (by kernel_rfl) rfl (fun w M => ?_)
   rw [pj_f (fun h => by rw [(twoErr_0 h).2] at hc0; simp at hc0)]; exact retFI_zero M.1
  ·try simp only [sA] at hc0
   refine gc_skip ?_
   refine gk_then (hK8 _ _ ?_)
   refine gc_seq fun K14 hK14 => ?_
   have hh : fIsCategory c = true ∧ fIsCategory d = true := ⟨hs1_3, hc0⟩
   have ht := twoErr_t hh.1 hh.2
   have sc := (isCat_of hh.1).toShapeP; have sd := (isCat_of hh.2).toShapeP
   have c0 := sc.ob0; have c1 := sc.ob8; have c2 := sc.n40; have d0 := sd.ob0; have d1 := sd.ob8; have d2 := sd.n40
   refine gc_region ?_
   refine gv (qts Try.underlying29 (n := 0)) ?_
   refine gv (qts Try.underlying29 (n := 1)) ?_
   refine gop fun K16 hK16 => ?_
   refine go_callC rfl rfl rfl Try.func54 rfl (by decide) rfl (fun w M => specProduct_any w _ _ (mem_rdC M h0) _ _ (mem_rdC M e0) (sc) (sd)) ?_
   intro ca15 cb15 cc15 cd15 ce15 cf15 cg15 ch15 cu15
   refine hK16 _ _ ?_
   refine gop fun K18 hK18 => ?_
   refine go_alloc (z := (.agg #[.int .i64 0, .slice none 0 0, .slice none 0 0, .slice none 0 0, .slice none 0 0])) (cs := [.int .i64 0, .slice none 0 0, .slice none 0 0, .slice none 0 0, .slice none 0 0]) rfl rfl rfl (fun w => by kernel_rfl) rfl ?_
   intro B17
   refine hK18 _ _ ?_
   refine gop fun K19 hK19 => ?_
   refine go_storeS (n := 7) rfl rfl rfl rfl (by kernel_rfl) rfl rfl rfl ?_
   refine hK19 _ _ ?_
   refine gnt (hK14 _ _ ?_)
   refine gc_seq fun K20 hK20 => ?_
   refine gc_sr fun K21 hK21 => ?_
   refine gv (qts Try.underlying29 (n := 7)) ?_
   refine g_q (.free rfl) rfl rfl (qt_call rfl Try.func55 rfl (by decide) rfl (fun w M => specFits_any w _ _ (rdC_mk ((mem_own1 (n := 3) M rfl).rd) ((mem_own1 (n := 4) M rfl).rd) ((mem_own1 (n := 5) M rfl).rd) (mem_rdU (n := 6) M rfl)))) ?_
   refine gv (qt_not rfl rfl) ?_
   refine gnt (hK21 _ _ ?_)
   refine gc_cond rfl (fun hc1 => ?_) (fun hc1 => ?_)
   ·try simp only [sA] at hc1
    refine gc_sr fun K22 hK22 => ?_
    refine gv (qt_build rfl rfl bt0_Functor) ?_
    refine gop fun K23 hK23 => ?_
    refine go_storeS (n := 2) rfl rfl rfl rfl (by kernel_rfl) rfl rfl rfl ?_
    refine hK23 _ _ ?_
    refine gas ?_
    refine gnt (hK22 _ _ ?_)
    refine gc_ret ?_
    refine gk_then_ret ?_
    refine ret_SI (n := 2) rfl rfl rfl Try.underlying31 rfl (by kernel_rfl) rfl (fun w M => ?_)
    rw [pj_l ht (bP_f' hc1)]; exact retFI_zero M.1
   ·try simp only [sA] at hc1
    refine gc_skip ?_
    refine gk_then (hK20 _ _ ?_)
    refine gc_sr fun K24 hK24 => ?_
    refine gop fun K26 hK26 => ?_
    refine go_slice0 rfl rfl rfl Try.underlying22 ?_
    intro B25
    refine hK26 _ _ ?_
    refine gop fun K28 hK28 => ?_
    refine go_slice0 rfl rfl rfl Try.underlying22 ?_
    intro B27
    refine hK28 _ _ ?_
    refine gas ?_
    refine gas ?_
    refine gnt (hK24 _ _ ?_)
    refine gc_seq fun K29 hK29 => ?_
    refine gc_sr fun K30 hK30 => ?_
    refine gas ?_
    refine gnt (hK30 _ _ ?_)
    refine gc_block ?_
    have hob : (prodM c d).ob = c.ob * d.ob := rfl
    have hos : (prodM c d).s.length = c.s.length * d.s.length := pjs_len c d
    have hb1 : 0 ≤ c.ob * d.ob ∧ c.ob * d.ob ≤ 10000 := mul_bnd c0 (by omega) d0 (by omega)
    have hb2 := mul_40 (m := c.s.length) (k := d.s.length) c2 d2
    have hb3 := hb1.1; have hb4 := hb1.2
    try simp only [sL]
    refine gc_loopT ([(0, _), (1, _), (2, _), (3, _), (4, _), (6, _), (7, _), (8, _), (10, _), (21, _), (28, _)] : Env) (fun s : Nat × (Option Addr) × Nat => (fun (k : Nat) (a : Option Addr) (q : Nat) => (([(9, .slice a (tabTo (fun x => (x : Int) / d.ob) k).length q), (11, .int .i64 (k : Int))] : Env), ([(8, own1I (.slice a (tabTo (fun x => (x : Int) / d.ob) k).length q) (tabTo (fun x => (x : Int) / d.ob) k))] : List (Nat × Itm)), (k : Int) ≤ (prodM c d).ob, ((prodM c d).ob - (k : Int)).toNat)) s.1 s.2.1 s.2.2) (0, _, _) (by repeat first | exact sub_nil | refine sub_cons rfl ?_) rfl (by omega) ?_
    rintro ⟨k, a, q⟩ hinv KL31 hKL31
    simp only [sU, sL] at hinv hKL31 ⊢
    have hk := hinv
    have hl1 := tabTo_len (fun x => (x : Int) / d.ob) k
    refine gc_seq fun K32 hK32 => ?_
    refine gc_sr fun K33 hK33 => ?_
    refine gm ?_
    refine gv (qtf Try.underlying29 (z := 0) (off := 0)) ?_
    refine gv (qtl Try.underlying2 (n := 7)) ?_
    refine gv (qt_lss rfl rfl rfl) ?_
    refine gnt (hK33 _ _ ?_)
    refine gc_cond rfl (fun hc2 => ?_) (fun hc2 => ?_)
    ·try simp only [sA] at hc2
     refine gc_skip ?_
     refine gk_then (hK32 _ _ ?_)
     refine gc_seq fun K34 hK34 => ?_
     refine gc_block ?_
     refine gc_sr fun K35 hK35 => ?_
     refine gm ?_
     refine gnt (hK35 _ _ ?_)
     refine gc_cond_f rfl ?_
     have hp := prd_pos (x := (k : Int)) (a := c.ob) (b := d.ob) (by omega) (by omega) d0
     have hq1 := Int.ediv_nonneg (a := (k : Int)) (b := d.ob) (by omega) d0; have hq2 := Int.ediv_le_self (a := (k : Int)) d.ob (by omega); have hq3 := Int.emod_nonneg (k : Int) (b := d.ob) (by omega); have hq4 := Int.emod_lt_of_pos (k : Int) hp
     refine gc_region ?_
     refine gm ?_
     refine gm ?_
     refine gv (qtf Try.underlying29 (z := 0) (off := 0)) ?_
     refine gv (qtl Try.underlying2 (n := 1)) ?_
     refine gv (qt_quo rfl rfl rfl (by omega) (by omega) (by omega)) ?_
     refine gop fun K37 hK37 => ?_
     refine go_slice1 rfl rfl rfl rfl Try.underlying22 ?_
     intro B36
     refine hK37 _ _ ?_
     refine gop fun K39 hK39 => ?_
     refine go_append (n := 8) (m := 10) rfl rfl rfl Try.underlying22 rfl rfl rfl rfl (by omega) ?_
     intro va38 vc38
     refine hK39 _ _ ?_
     refine gas ?_
     refine g_nil ?_
     refine gk_block ?_
     refine gk_then (hK34 _ _ ?_)
     refine gc_region ?_
     refine gm ?_
     refine gv (qt_add rfl rfl rfl (by omega)) ?_
     refine gas ?_
     refine g_nil ?_
     simp only [tabTo_st (fun x => (x : Int) / d.ob)]
     refine gk_then (gk_take 10 ?_)
     refine gk_sub ?hs_40 (hKL31 (k + 1, _, _) ?hi_40 ?hm_40)
     case hs_40 => repeat first | exact sub_nil | refine sub_cons rfl ?_
     case hi_40 => omega
     case hm_40 => omega
    ·try simp only [sA] at hc2
     refine gc_exit ?_
     refine gk_then_exit ?_
     refine gk_then_exit ?_
     refine gk_block_hit ?_
     refine gk_then (hK29 _ _ ?_)
     refine gc_seq fun K41 hK41 => ?_
     obtain rfl : k = (prodM c d).ob.toNat := by omega
     have ht1 : tabTo (fun x => (x : Int) / d.ob) (prodM c d).ob.toNat = prL (fun a _ => a) (numL c.ob.toNat) (numL d.ob.toNat) := fst_numI c0 d0
     simp only [ht1]
     refine gc_region ?_
     refine gv (qtf Try.underlying29 (z := 0) (off := 1)) ?_
     refine gv (qtl Try.underlying22 (n := 1)) ?_
     refine gv (qln (fun w M => lenV_rd e1)) ?_
     refine gas ?_
     refine gnt (hK41 _ _ ?_)
     refine gc_seq fun K42 hK42 => ?_
     refine gc_sr fun K43 hK43 => ?_
     refine gas ?_
     refine gnt (hK43 _ _ ?_)
     refine gc_block ?_
     try simp only [sL]
     refine gc_loopT ([(0, _), (1, _), (2, _), (3, _), (4, _), (6, _), (7, _), (8, _), (9, _), (11, _), (12, _), (21, _), (28, _), (35, _)] : Env) (fun s : Nat × (Option Addr) × Nat => (fun (k : Nat) (a : Option Addr) (q : Nat) => (([(10, .slice a (tabTo (fun x => (x : Int) / (d.s.length : Int)) k).length q), (13, .int .i64 (k : Int))] : Env), ([(9, own1I (.slice a (tabTo (fun x => (x : Int) / (d.s.length : Int)) k).length q) (tabTo (fun x => (x : Int) / (d.s.length : Int)) k))] : List (Nat × Itm)), (k : Int) ≤ ((prodM c d).s.length : Int), (((prodM c d).s.length : Int) - (k : Int)).toNat)) s.1 s.2.1 s.2.2) (0, _, _) (by repeat first | exact sub_nil | refine sub_cons rfl ?_) rfl (by omega) ?_
     rintro ⟨k, a, q⟩ hinv KL44 hKL44
     simp only [sU, sL] at hinv hKL44 ⊢
     have hk := hinv
     have hl1 := tabTo_len (fun x => (x : Int) / (d.s.length : Int)) k
     refine gc_seq fun K45 hK45 => ?_
     refine gc_sr fun K46 hK46 => ?_
     refine gm ?_
     refine gv (qtf Try.underlying29 (z := 0) (off := 1)) ?_
     refine gv (qtl Try.underlying22 (n := 7)) ?_
     refine gv (qln (fun w M => lenV_own1 (n := 3) rfl M)) ?_
     refine gv (qt_lss rfl rfl rfl) ?_
     refine gnt (hK46 _ _ ?_)
     refine gc_cond rfl (fun hc3 => ?_) (fun hc3 => ?_)
     ·try simp only [sA] at hc3
      refine gc_skip ?_
      refine gk_then (hK45 _ _ ?_)
      refine gc_seq fun K47 hK47 => ?_
      refine gc_block ?_
      refine gc_sr fun K48 hK48 => ?_
      refine gm ?_
      refine gnt (hK48 _ _ ?_)
      refine gc_cond_f rfl ?_
      have hp0 : 0 < d.s.length := Nat.pos_of_ne_zero fun h0 => by rw [h0, Nat.mul_zero] at hos; omega
      have hp : (0 : Int) < (d.s.length : Int) := by omega
      have hq1 := Int.ediv_nonneg (a := (k : Int)) (b := (d.s.length : Int)) (by omega) (by omega); have hq2 := Int.ediv_le_self (a := (k : Int)) (d.s.length : Int) (by omega)
      refine gc_region ?_
      refine gm ?_
      refine gm ?_
      refine gm ?_
      refine gv (qt_quo rfl rfl rfl (by omega) (by omega) (by omega)) ?_
      refine gop fun K50 hK50 => ?_
      refine go_slice1 rfl rfl rfl rfl Try.underlying22 ?_
      intro B49
      refine hK50 _ _ ?_
      refine gop fun K52 hK52 => ?_
      refine go_append (n := 9) (m := 10) rfl rfl rfl Try.underlying22 rfl rfl rfl rfl (by omega) ?_
      intro va51 vc51
      refine hK52 _ _ ?_
      refine gas ?_
      refine g_nil ?_
      refine gk_block ?_
      refine gk_then (hK47 _ _ ?_)
      refine gc_region ?_
      refine gm ?_
      refine gv (qt_add rfl rfl rfl (by omega)) ?_
      refine gas ?_
      refine g_nil ?_
      simp only [tabTo_st (fun x => (x : Int) / (d.s.length : Int))]
      refine gk_then (gk_take 10 ?_)
      refine gk_sub ?hs_53 (hKL44 (k + 1, _, _) ?hi_53 ?hm_53)
      case hs_53 => repeat first | exact sub_nil | refine sub_cons rfl ?_
      case hi_53 => omega
      case hm_53 => omega
     ·try simp only [sA] at hc3
      refine gc_exit ?_
      refine gk_then_exit ?_
      refine gk_then_exit ?_
      refine gk_block_hit ?_
      refine gk_then (hK42 _ _ ?_)
      refine gc_seq fun K54 hK54 => ?_
      refine gc_seq fun K55 hK55 => ?_
      obtain rfl : k = (prodM c d).s.length := by omega
      have ht2 : tabTo (fun x => (x : Int) / (d.s.length : Int)) (prodM c d).s.length = prL (fun a _ => a) (numL c.s.length) (numL d.s.length) := (congrArg _ hos).trans <| fst_num c.s.length d.s.length
      simp only [ht2]
      refine gc_region ?_
      refine gm ?_
      refine gnt (hK55 _ _ ?_)
      refine gc_cond_f rfl ?_
      refine gc_skip ?_
      refine gk_then (hK54 _ _ ?_)
      refine gc_sr fun K56 hK56 => ?_
      refine gv (qts Try.underlying29 (n := 7)) ?_
      refine gv (qts Try.underlying29 (n := 0)) ?_
      refine gm ?_
      refine gm ?_
      refine gop fun K58 hK58 => ?_
      refine go_callFn rfl rfl rfl Try.func56 rfl (by decide) rfl (fun w M => specMakeF_any w _ _ (rdC_mk ((mem_own1 (n := 3) M rfl).rd) ((mem_own1 (n := 4) M rfl).rd) ((mem_own1 (n := 5) M rfl).rd) (mem_rdU (n := 6) M rfl)) _ _ (mem_rdC M h0) _ _ _ _ ((mem_own1 (n := 8) M rfl).rd) ((mem_own1 (n := 9) M rfl).rd)) ?_
      intro fx1_57 fk1_57 fx2_57 fk2_57 fx3_57 fk3_57 fx4_57 fk4_57 fx5_57 fk5_57 fx6_57 fk6_57 fx7_57 fk7_57 fx8_57 fk8_57 fx9_57 fk9_57 fx10_57 fk10_57 us57 ut57
      refine hK58 _ _ ?_
      refine gop fun K59 hK59 => ?_
      refine go_storeS (n := 2) rfl rfl rfl rfl (by kernel_rfl) rfl rfl rfl ?_
      refine hK59 _ _ ?_
      refine gas ?_
      refine gnt (hK56 _ _ ?_)
      refine gc_ret ?_
      refine ret_SI (n := 2) rfl rfl rfl Try.underlying31 rfl (by kernel_rfl) rfl (fun w M => ?_)
      rw [pj_t ht (bP_t' hc1)]; exact retFI_star (F := pj1 c d) (mem_block 10 10 (M))

set_option maxHeartbeats 4000000 in
set_option maxRecDepth 100000 in
theorem specPj2_any (w : World) (v : Value) (c : Cat) (u : Value) (d : Cat) (h : RdC w v c) (e : RdC w u d) :
  Calls Try.prog 64 #[v, u, .bool true] w (RetFI w (pjF c d (pj2 c d)).1 (pjF c d (pj2 c d)).2) := by
 have h0 := h
 obtain ⟨va, vb, vc, vd, ve, vf, vg, vh, rfl, h1, h2, h3, h4, _⟩ := h.lists
 have e0 := e
 obtain ⟨ua, ub, uc, ud, ue, uf, ug, uh, rfl, e1, e2, e3, e4, _⟩ := e.lists
 go_enter Try.func64, Try.ntmps64
 refine gc_enter (N := 87) rfl (look_cons (k := 0) rfl (look_cons (k := 1) rfl (look_cons (k := 2) rfl (look_nil _)))) ?_
 refine gc_sr fun K1 hK1 => ?_
 refine gop fun K3 hK3 => ?_
 refine go_box rfl rfl rfl rfl rfl ?_
 intro B2
 refine hK3 _ _ ?_
 refine gop fun K5 hK5 => ?_
 refine go_box rfl rfl rfl rfl rfl ?_
 intro B4
 refine hK5 _ _ ?_
 refine gop fun K7 hK7 => ?_
 refine go_alloc (z := (.agg #[.int .i64 0, .slice none 0 0, .slice none 0 0, .slice none 0 0, .slice none 0 0, .int .i64 0, .slice none 0 0, .slice none 0 0, .slice none 0 0, .slice none 0 0, .slice none 0 0, .slice none 0 0])) (cs := [.int .i64 0, .slice none 0 0, .slice none 0 0, .slice none 0 0, .slice none 0 0, .int .i64 0, .slice none 0 0, .slice none 0 0, .slice none 0 0, .slice none 0 0, .slice none 0 0, .slice none 0 0]) rfl rfl rfl (fun w => by kernel_rfl) rfl ?_
 intro B6
 refine hK7 _ _ ?_
 refine gas ?_
 refine gnt (hK1 _ _ ?_)
 refine gc_seq fun K8 hK8 => ?_
 refine gc_sr fun K9 hK9 => ?_
 refine gv (qts Try.underlying29 (n := 0)) ?_
 refine g_q (.free rfl) rfl rfl (qt_call rfl Try.func104 rfl (by decide) rfl (fun w M => specIs_any w _ _ (mem_rdC M h0))) ?_
 refine gv (qt_not rfl rfl) ?_
 refine g_splitv (.free rfl) rfl rfl (qt_move rfl rfl) (fun hs1_3 => ?_) (fun hs1_3 => ?_)
 ·try simp only [sA] at hs1_3
  refine gsk ?_
  refine gsk ?_
  refine gsk ?_
  refine gv (qt_pick_t rfl rfl rfl) ?_
  refine gnt (hK9 _ _ ?_)
  refine gc_cond_t rfl ?_
  refine gc_sr fun K10 hK10 => ?_
  refine gv (qt_build rfl rfl bt0_Functor) ?_
  refine gop fun K11 hK11 => ?_
  refine go_storeS (n := 2) rfl rfl rfl rfl (by kernel_rfl) rfl rfl rfl ?_
  refine hK11 _ _ ?_
  refine gas ?_
  refine gnt (hK10 _ _ ?_)
  refine gc_ret ?_
  refine gk_then_ret ?_
  refine ret_SI (n := 2) rfl rfl rfl Try.underlying31 rfl (by kernel_rfl) rfl (fun w M => ?_)
  rw [pj_f (fun h => by rw [(twoErr_0 h).1] at hs1_3; simp at hs1_3)]; exact retFI_zero M.1
 ·try simp only [sA] at hs1_3
  refine gvh (qts Try.underlying29 (n := 1)) ?_
  refine g_q (.held _ _ _ rfl rfl rfl) rfl rfl (qt_call rfl Try.func104 rfl (by decide) rfl (fun w M => specIs_any w _ _ (mem_rdC M e0))) ?_
  refine gvh (qt_not rfl rfl) ?_
  refine gv (qt_pick_f rfl rfl rfl) ?_
  refine gnt (hK9 _ _ ?_)
  refine gc_cond rfl (fun hc0 => ?_) (fun hc0 => ?_)
  ·try simp only [sA] at hc0
   refine gc_sr fun K12 hK12 => ?_
   refine gv (qt_build rfl rfl bt0_Functor) ?_
   refine gop fun K13 hK13 => ?_
   refine go_storeS (n := 2) rfl rfl rfl rfl (by kernel_rfl) rfl rfl rfl ?_
   refine hK13 _ _ ?_
   refine gas ?_
   refine gnt (hK12 _ _ ?_)
   refine gc_ret ?_
   refine gk_then_ret ?_
   refine ret_SI (n := 2) rfl rfl rfl Try.underlying31 rfl (by kernel_rfl) rfl (fun w M => ?_)
   rw [pj_f (fun h => by rw [(twoErr_0 h).2] at hc0; simp at hc0)]; exact retFI_zero M.1
  ·try simp only [sA] at hc0
   refine gc_skip ?_
   refine gk_then (hK8 _ _ ?_)
   refine gc_seq fun K14 hK14 => ?_
   have hh : fIsCategory c = true ∧ fIsCategory d = true := ⟨hs1_3, hc0⟩
   have ht := twoErr_t hh.1 hh.2
   have sc := (isCat_of hh.1).toShapeP; have sd := (isCat_of hh.2).toShapeP
   have c0 := sc.ob0; have c1 := sc.ob8; have c2 := sc.n40; have d0 := sd.ob0; have d1 := sd.ob8; have d2 := sd.n40
   refine gc_region ?_
   refine gv (qts Try.underlying29 (n := 0)) ?_
   refine gv (qts Try.underlying29 (n := 1)) ?_
   refine gop fun K16 hK16 => ?_
   refine go_callC rfl rfl rfl Try.func54 rfl (by decide) rfl (fun w M => specProduct_any w _ _ (mem_rdC M h0) _ _ (mem_rdC M e0) (sc) (sd)) ?_
   intro ca15 cb15 cc15 cd15 ce15 cf15 cg15 ch15 cu15
   refine hK16 _ _ ?_
   refine gop fun K18 hK18 => ?_
   refine go_alloc (z := (.agg #[.int .i64 0, .slice none 0 0, .slice none 0 0, .slice none 0 0, .slice none 0 0])) (cs := [.int .i64 0, .slice none 0 0, .slice none 0 0, .slice none 0 0, .slice none 0 0]) rfl rfl rfl (fun w => by kernel_rfl) rfl ?_
   intro B17
   refine hK18 _ _ ?_
   refine gop fun K19 hK19 => ?_
   refine go_storeS (n := 7) rfl rfl rfl rfl (by kernel_rfl) rfl rfl rfl ?_
   refine hK19 _ _ ?_
   refine gnt (hK14 _ _ ?_)
   refine gc_seq fun K20 hK20 => ?_
   refine gc_sr fun K21 hK21 => ?_
   refine gv (qts Try.underlying29 (n := 7)) ?_
   refine g_q (.free rfl) rfl rfl (qt_call rfl Try.func55 rfl (by decide) rfl (fun w M => specFits_any w _ _ (rdC_mk ((mem_own1 (n := 3) M rfl).rd) ((mem_own1 (n := 4) M rfl).rd) ((mem_own1 (n := 5) M rfl).rd) (mem_rdU (n := 6) M rfl)))) ?_
   refine gv (qt_not rfl rfl) ?_
   refine gnt (hK21 _ _ ?_)
   refine gc_cond rfl (fun hc1 => ?_) (fun hc1 => ?_)
   ·try simp only [sA] at hc1
    refine gc_sr fun K22 hK22 => ?_
    refine gv (qt_build rfl rfl bt0_Functor) ?_
    refine gop fun K23 hK23 => ?_
    refine go_storeS (n := 2) rfl rfl rfl rfl (by kernel_rfl) rfl rfl rfl ?_
    refine hK23 _ _ ?_
    refine gas ?_
    refine gnt (hK22 _ _ ?_)
    refine gc_ret ?_
    refine gk_then_ret ?_
    refine ret_SI (n := 2) rfl rfl rfl Try.underlying31 rfl (by kernel_rfl) rfl (fun w M => ?_)
    rw [pj_l ht (bP_f' hc1)]; exact retFI_zero M.1
   ·try simp only [sA] at hc1
    refine gc_skip ?_
    refine gk_then (hK20 _ _ ?_)
    refine gc_sr fun K24 hK24 => ?_
    refine gop fun K26 hK26 => ?_
    refine go_slice0 rfl rfl rfl Try.underlying22 ?_
    intro B25
    refine hK26 _ _ ?_
    refine gop fun K28 hK28 => ?_
    refine go_slice0 rfl rfl rfl Try.underlying22 ?_
    intro B27
    refine hK28 _ _ ?_
    refine gas ?_
    refine gas ?_
    refine gnt (hK24 _ _ ?_)
    refine gc_seq fun K29 hK29 => ?_
    refine gc_sr fun K30 hK30 => ?_
    refine gas ?_
    refine gnt (hK30 _ _ ?_)
    refine gc_block ?_
    have hob : (prodM c d).ob = c.ob * d.ob := rfl
    have hos : (prodM c d).s.length = c.s.length * d.s.length := pjs_len c d
    have hb1 : 0 ≤ c.ob * d.ob ∧ c.ob * d.ob ≤ 10000 := mul_bnd c0 (by omega) d0 (by omega)
    have hb2 := mul_40 (m := c.s.length) (k := d.s.length) c2 d2
    have hb3 := hb1.1; have hb4 := hb1.2
    try simp only [sL]
    refine gc_loopT ([(0, _), (1, _), (2, _), (3, _), (4, _), (6, _), (7, _), (8, _), (10, _), (21, _), (28, _)] : Env) (fun s : Nat × (Option Addr) × Nat => (fun (k : Nat) (a : Option Addr) (q : Nat) => (([(9, .slice a (tabTo (fun x => (x : Int) % d.ob) k).length q), (11, .int .i64 (k : Int))] : Env), ([(8, own1I (.slice a (tabTo (fun x => (x : Int) % d.ob) k).length q) (tabTo (fun x => (x : Int) % d.ob) k))] : List (Nat × Itm)), (k : Int) ≤ (prodM c d).ob, ((prodM c d).ob - (k : Int)).toNat)) s.1 s.2.1 s.2.2) (0, _, _) (by repeat first | exact sub_nil | refine sub_cons rfl ?_) rfl (by omega) ?_
    rintro ⟨k, a, q⟩ hinv KL31 hKL31
    simp only [sU, sL] at hinv hKL31 ⊢
    have hk := hinv
    have hl1 := tabTo_len (fun x => (x : Int) % d.ob) k
    refine gc_seq fun K32 hK32 => ?_
    refine gc_sr fun K33 hK33 => ?_
    refine gm ?_
    refine gv (qtf Try.underlying29 (z := 0) (off := 0)) ?_
    refine gv (qtl Try.underlying2 (n := 7)) ?_
    refine gv (qt_lss rfl rfl rfl) ?_
    refine gnt (hK33 _ _ ?_)
    refine gc_cond rfl (fun hc2 => ?_) (fun hc2 => ?_)
    ·try simp only [sA] at hc2
     refine gc_skip ?_
     refine gk_then (hK32 _ _ ?_)
     refine gc_seq fun K34 hK34 => ?_
     refine gc_block ?_
     refine gc_sr fun K35 hK35 => ?_
     refine gm ?_
     refine gnt (hK35 _ _ ?_)
     refine gc_cond_t rfl ?_
     have hp := prd_pos (x := (k : Int)) (a := c.ob) (b := d.ob) (by omega) (by omega) d0
     have hq1 := Int.ediv_nonneg (a := (k : Int)) (b := d.ob) (by omega) d0; have hq2 := Int.ediv_le_self (a := (k : Int)) d.ob (by omega); have hq3 := Int.emod_nonneg (k : Int) (b := d.ob) (by omega); have hq4 := Int.emod_lt_of_pos (k : Int) hp
     refine gc_region ?_
     refine gm ?_
     refine gm ?_
     refine gv (qtf Try.underlying29 (z := 0) (off := 0)) ?_
     refine gv (qtl Try.underlying2 (n := 1)) ?_
     refine gv (qt_rem rfl rfl rfl (by omega) (by omega) (by omega)) ?_
     refine gop fun K37 hK37 => ?_
     refine go_slice1 rfl rfl rfl rfl Try.underlying22 ?_
     intro B36
     refine hK37 _ _ ?_
     refine gop fun K39 hK39 => ?_
     refine go_append (n := 8) (m := 10) rfl rfl rfl Try.underlying22 rfl rfl rfl rfl (by omega) ?_
     intro va38 vc38
     refine hK39 _ _ ?_
     refine gas ?_
     refine g_nil ?_
     refine gk_block ?_
     refine gk_then (hK34 _ _ ?_)
     refine gc_region ?_
     refine gm ?_
     refine gv (qt_add rfl rfl rfl (by omega)) ?_
     refine gas ?_
     refine g_nil ?_
     simp only [tabTo_st (fun x => (x : Int) % d.ob)]
     refine gk_then (gk_take 10 ?_)
     refine gk_sub ?hs_40 (hKL31 (k + 1, _, _) ?hi_40 ?hm_40)
     case hs_40 => repeat first | exact sub_nil | refine sub_cons rfl ?_
     case hi_40 => omega
     case hm_40 => omega
    ·try simp only [sA] at hc2
     refine gc_exit ?_
     refine gk_then_exit ?_
     refine gk_then_exit ?_
     refine gk_block_hit ?_
     refine gk_then (hK29 _ _ ?_)
     refine gc_seq fun K41 hK41 => ?_
     obtain rfl : k = (prodM c d).ob.toNat := by omega
     have ht1 : tabTo (fun x => (x : Int) % d.ob) (prodM c d).ob.toNat = prL (fun _ b => b) (numL c.ob.toNat) (numL d.ob.toNat) := snd_numI c0 d0
     simp only [ht1]
     refine gc_region ?_
     refine gv (qtf Try.underlying29 (z := 0) (off := 1)) ?_
     refine gv (qtl Try.underlying22 (n := 1)) ?_
     refine gv (qln (fun w M => lenV_rd e1)) ?_
     refine gas ?_
     refine gnt (hK41 _ _ ?_)
     refine gc_seq fun K42 hK42 => ?_
     refine gc_sr fun K43 hK43 => ?_
     refine gas ?_
     refine gnt (hK43 _ _ ?_)
     refine gc_block ?_
     try simp only [sL]
     refine gc_loopT ([(0, _), (1, _), (2, _), (3, _), (4, _), (6, _), (7, _), (8, _), (9, _), (11, _), (12, _), (21, _), (28, _), (35, _)] : Env) (fun s : Nat × (Option Addr) × Nat => (fun (k : Nat) (a : Option Addr) (q : Nat) => (([(10, .slice a (tabTo (fun x => (x : Int) % (d.s.length : Int)) k).length q), (13, .int .i64 (k : Int))] : Env), ([(9, own1I (.slice a (tabTo (fun x => (x : Int) % (d.s.length : Int)) k).length q) (tabTo (fun x => (x : Int) % (d.s.length : Int)) k))] : List (Nat × Itm)), (k : Int) ≤ ((prodM c d).s.length : Int), (((prodM c d).s.length : Int) - (k : Int)).toNat)) s.1 s.2.1 s.2.2) (0, _, _) (by repeat first | exact sub_nil | refine sub_cons rfl ?_) rfl (by omega) ?_
     rintro ⟨k, a, q⟩ hinv KL44 hKL44
     simp only [sU, sL] at hinv hKL44 ⊢
     have hk := hinv
     have hl1 := tabTo_len (fun x => (x : Int) % (d.s.length : Int)) k
     refine gc_seq fun K45 hK45 => ?_
     refine gc_sr fun K46 hK46 => ?_
     refine gm ?_
     refine gv (qtf Try.underlying29 (z := 0) (off := 1)) ?_
     refine gv (qtl Try.underlying22 (n := 7)) ?_
     refine gv (qln (fun w M => lenV_own1 (n := 3) rfl M)) ?_
     refine gv (qt_lss rfl rfl rfl) ?_
     refine gnt (hK46 _ _ ?_)
     refine gc_cond rfl (fun hc3 => ?_) (fun hc3 => ?_)
     ·try simp only [sA] at hc3
      refine gc_skip ?_
      refine gk_then (hK45 _ _ ?_)
      refine gc_seq fun K47 hK47 => ?_
      refine gc_block ?_
      refine gc_sr fun K48 hK48 => ?_
      refine gm ?_
      refine gnt (hK48 _ _ ?_)
      refine gc_cond_t rfl ?_
      have hp0 : 0 < d.s.length := Nat.pos_of_ne_zero fun h0 => by rw [h0, Nat.mul_zero] at hos; omega
      have hp : (0 : Int) < (d.s.length : Int) := by omega
      have hq1 := Int.ediv_nonneg (a := (k : Int)) (b := (d.s.length : Int)) (by omega) (by omega); have hq2 := Int.ediv_le_self (a := (k : Int)) (d.s.length : Int) (by omega)
      refine gc_region ?_
      refine gm ?_
      refine gm ?_
      refine gm ?_
      refine gv (qt_rem rfl rfl rfl (by omega) (by omega) (by omega)) ?_
      refine gop fun K50 hK50 => ?_
      refine go_slice1 rfl rfl rfl rfl Try.underlying22 ?_
      intro B49
      refine hK50 _ _ ?_
      refine gop fun K52 hK52 => ?_
      refine go_append (n := 9) (m := 10) rfl rfl rfl Try.underlying22 rfl rfl rfl rfl (by omega) ?_
      intro va51 vc51
      refine hK52 _ _ ?_
      refine gas ?_
      refine g_nil ?_
      refine gk_block ?_
      refine gk_then (hK47 _ _ ?_)
      refine gc_region ?_
      refine gm ?_
      refine gv (qt_add rfl rfl rfl (by omega)) ?_
      refine gas ?_
      refine g_nil ?_
      simp only [tabTo_st (fun x => (x : Int) % (d.s.length : Int))]
      refine gk_then (gk_take 10 ?_)
      refine gk_sub ?hs_53 (hKL44 (k + 1, _, _) ?hi_53 ?hm_53)
      case hs_53 => repeat first | exact sub_nil | refine sub_cons rfl ?_
      case hi_53 => omega
      case hm_53 => omega
     ·try simp only [sA] at hc3
      refine gc_exit ?_
      refine gk_then_exit ?_
      refine gk_then_exit ?_
      refine gk_block_hit ?_
      refine gk_then (hK42 _ _ ?_)
      refine gc_seq fun K54 hK54 => ?_
      refine gc_seq fun K55 hK55 => ?_
      obtain rfl : k = (prodM c d).s.length := by omega
      have ht2 : tabTo (fun x => (x : Int) % (d.s.length : Int)) (prodM c d).s.length = prL (fun _ b => b) (numL c.s.length) (numL d.s.length) := (congrArg _ hos).trans <| snd_num c.s.length d.s.length
      simp only [ht2]
      refine gc_region ?_
      refine gm ?_
      refine gnt (hK55 _ _ ?_)
      refine gc_cond_t rfl ?_
      refine gc_sr fun K56 hK56 => ?_
      refine gv (qts Try.underlying29 (n := 7)) ?_
      refine gv (qts Try.underlying29 (n := 1)) ?_
      refine gm ?_
      refine gm ?_
      refine gop fun K58 hK58 => ?_
      refine go_callFn rfl rfl rfl Try.func56 rfl (by decide) rfl (fun w M => specMakeF_any w _ _ (rdC_mk ((mem_own1 (n := 3) M rfl).rd) ((mem_own1 (n := 4) M rfl).rd) ((mem_own1 (n := 5) M rfl).rd) (mem_rdU (n := 6) M rfl)) _ _ (mem_rdC M e0) _ _ _ _ ((mem_own1 (n := 8) M rfl).rd) ((mem_own1 (n := 9) M rfl).rd)) ?_
      intro fx1_57 fk1_57 fx2_57 fk2_57 fx3_57 fk3_57 fx4_57 fk4_57 fx5_57 fk5_57 fx6_57 fk6_57 fx7_57 fk7_57 fx8_57 fk8_57 fx9_57 fk9_57 fx10_57 fk10_57 us57 ut57
      refine hK58 _ _ ?_
      refine gop fun K59 hK59 => ?_
      refine go_storeS (n := 2) rfl rfl rfl rfl (by kernel_rfl) rfl rfl rfl ?_
      refine hK59 _ _ ?_
      refine gas ?_
      refine gnt (hK56 _ _ ?_)
      refine gc_ret ?_
      refine gk_then_ret ?_
      refine ret_SI (n := 2) rfl rfl rfl Try.underlying31 rfl (by kernel_rfl) rfl (fun w M => ?_)
      rw [pj_t ht (bP_t' hc1)]; exact retFI_star (F := pj2 c d) (mem_block 10 10 (M))

set_option maxHeartbeats 4000000 in
set_option maxRecDepth 100000 in
theorem projected_any (w : World) (vt : Value) (t : Cat) (ht : RdC w vt t) (v : Value) (c : Cat) (u : Value) (d : Cat) (h : RdC w v c) (e : RdC w u d) (g : Value) (φ : Int → Int → Int) (hg : ∀ w', Below w.heap.size w w' → ∀ a b : Int, CallsV g [.int .i64 a, .int .i64 b] w' (RetI w' (φ a b))) :
  Calls Try.prog 66 #[vt, v, u, g] w (RetFI w (pjF c d (Fpj c d t φ)).1 (pjF c d (Fpj c d t φ)).2) := by
 have ht0 := ht
 obtain ⟨vta, vtb, vtc, vtd, vte, vtf, vtg, vth, rfl, ht1, ht2, ht3, ht4, _⟩ := ht.lists
 have h0 := h
 obtain ⟨va, vb, vc, vd, ve, vf, vg, vh, rfl, h1, h2, h3, h4, _⟩ := h.lists
 have e0 := e
 obtain ⟨ua, ub, uc, ud, ue, uf, ug, uh, rfl, e1, e2, e3, e4, _⟩ := e.lists
 go_enter Try.func66, Try.ntmps66
 refine gc_enter (N := 46) rfl (look_cons (k := 0) rfl (look_cons (k := 1) rfl (look_cons (k := 2) rfl (look_cons (k := 3) rfl (look_nil _))))) ?_
 refine gc_sr fun K1 hK1 => ?_
 refine gop fun K3 hK3 => ?_
 refine go_box rfl rfl rfl rfl rfl ?_
 intro B2
 refine hK3 _ _ ?_
 refine gop fun K5 hK5 => ?_
 refine go_box rfl rfl rfl rfl rfl ?_
 intro B4
 refine hK5 _ _ ?_
 refine gop fun K7 hK7 => ?_
 refine go_box rfl rfl rfl rfl rfl ?_
 intro B6
 refine hK7 _ _ ?_
 refine gop fun K9 hK9 => ?_
 refine go_alloc (z := (.agg #[.int .i64 0, .slice none 0 0, .slice none 0 0, .slice none 0 0, .slice none 0 0, .int .i64 0, .slice none 0 0, .slice none 0 0, .slice none 0 0, .slice none 0 0, .slice none 0 0, .slice none 0 0])) (cs := [.int .i64 0, .slice none 0 0, .slice none 0 0, .slice none 0 0, .slice none 0 0, .int .i64 0, .slice none 0 0, .slice none 0 0, .slice none 0 0, .slice none 0 0, .slice none 0 0, .slice none 0 0]) rfl rfl rfl (fun w => by kernel_rfl) rfl ?_
 intro B8
 refine hK9 _ _ ?_
 refine gas ?_
 refine gnt (hK1 _ _ ?_)
 refine gc_sr fun K10 hK10 => ?_
 refine gv (qts Try.underlying29 (n := 1)) ?_
 refine gv (qts Try.underlying29 (n := 2)) ?_
 refine gop fun K12 hK12 => ?_
 refine go_callCI rfl rfl rfl Try.func45 rfl (by decide) rfl (fun w M => impl_ProductCategory w _ _ _ _ (mem_rdC M h0) (mem_rdC M e0)) ?_
 intro ca11 cb11 cc11 cd11 ce11 cf11 cg11 ch11 cu11
 refine hK12 _ _ ?_
 refine gm ?_
 refine gv (qt_extract rfl rfl rfl) ?_
 refine gv (qt_extract rfl rfl rfl) ?_
 refine gop fun K14 hK14 => ?_
 refine go_alloc (z := (.agg #[.int .i64 0, .slice none 0 0, .slice none 0 0, .slice none 0 0, .slice none 0 0])) (cs := [.int .i64 0, .slice none 0 0, .slice none 0 0, .slice none 0 0, .slice none 0 0]) rfl rfl rfl (fun w => by kernel_rfl) rfl ?_
 intro B13
 refine hK14 _ _ ?_
 refine gop fun K15 hK15 => ?_
 refine go_storeS (n := 8) rfl rfl rfl rfl (by kernel_rfl) rfl rfl rfl ?_
 refine hK15 _ _ ?_
 refine gas ?_
 refine gnt (hK10 _ _ ?_)
 refine gc_seq fun K16 hK16 => ?_
 refine gc_sr fun K17 hK17 => ?_
 refine gm ?_
 refine gv (qt_neq rfl rfl rfl) ?_
 refine gnt (hK17 _ _ ?_)
 refine gc_cond rfl (fun hc0 => ?_) (fun hc0 => ?_)
 ·try simp only [sA] at hc0
  refine gc_sr fun K18 hK18 => ?_
  refine gv (qt_build rfl rfl bt0_Functor) ?_
  refine gm ?_
  refine gop fun K19 hK19 => ?_
  refine go_storeS (n := 3) rfl rfl rfl rfl (by kernel_rfl) rfl rfl rfl ?_
  refine hK19 _ _ ?_
  refine gas ?_
  refine gnt (hK18 _ _ ?_)
  refine gc_ret ?_
  refine gk_then_ret ?_
  refine ret_SI (n := 3) rfl rfl rfl Try.underlying31 rfl (by kernel_rfl) rfl (fun w M => ?_)
  rw [prd2_n hc0]; exact retFI_zero M.1
 ·try simp only [sA] at hc0
  refine gc_skip ?_
  refine gk_then (hK16 _ _ ?_)
  refine gc_seq fun K20 hK20 => ?_
  have hP := prd2_0 hc0
  have hh := twoErr_0 hP.1
  simp only [prd_t hh.1 hh.2 hP.2]
  have sc := (isCat_of hh.1).toShapeP; have sd := (isCat_of hh.2).toShapeP
  have c0 := sc.ob0; have c1 := sc.ob8; have c2 := sc.n40; have d0 := sd.ob0; have d1 := sd.ob8; have d2 := sd.n40
  try simp only [sL]
  refine ga_start _ (fun w M => M) ?_
  refine gav 0 rfl (qtf Try.underlying29 (z := 0) (off := 0)) ?_
  refine gav 1 rfl (qtl Try.underlying2 (n := 1)) ?_
  refine gav 3 rfl (qtf Try.underlying29 (z := 0) (off := 0)) ?_
  refine gav 4 rfl (qtl Try.underlying2 (n := 2)) ?_
  refine gav 6 rfl (qt_move rfl rfl) ?_
  refine gao 2 fun K22 hK22 => ?_
  refine go_callL rfl rfl rfl Try.func83 rfl (by decide) rfl (fun w M => countL_any w _ (by first | assumption | omega) (by first | assumption | omega)) ?_
  intro va21 vc21
  refine hK22 _ _ (fun w M => (mem_take 9 M :)) ?_
  refine gao 5 fun K24 hK24 => ?_
  refine go_callL rfl rfl rfl Try.func83 rfl (by decide) rfl (fun w M => countL_any w _ (by first | assumption | omega) (by first | assumption | omega)) ?_
  intro va23 vc23
  refine hK24 _ _ (fun w M => (mem_take 9 M :)) ?_
  refine gao 7 fun K26 hK26 => ?_
  refine go_callL rfl rfl rfl Try.func59 rfl (by decide) rfl (fun w M => combined_any w _ (_) _ (_) ((mem_own1 (n := 9) M rfl).rd) ((mem_own1 (n := 10) M rfl).rd) (by rw [numL_len]; omega) (by rw [numL_len]; omega) (_) (φ) (fun w' hb i j hi hj => hg w' (M.1.trans (hb.mono M.1.size)) _ _)) ?_
  intro va25 vc25
  refine hK26 _ _ (fun w M => (mem_take 9 M :)) ?_
  refine gav 8 rfl (qt_assign rfl rfl) ?_
  refine ga_done (by kernel_rfl) ?_
  refine gk_then (hK20 _ _ ?_)
  refine gc_seq fun K27 hK27 => ?_
  try simp only [sL]
  refine ga_start _ (fun w M => M) ?_
  refine gav 0 rfl (qts Try.underlying29 (n := 1)) ?_
  refine gav 3 rfl (qts Try.underlying29 (n := 2)) ?_
  refine gav 6 rfl (qt_move rfl rfl) ?_
  refine gao 1 fun K28 hK28 => ?_
  refine go_q rfl rfl (qt_call rfl Try.func61 rfl (by decide) rfl (fun w M => arrows_any w _ _ (mem_rdC M h0))) ?_
  refine hK28 _ _ (fun w M => (mem_take 12 M :)) ?_
  refine gao 2 fun K30 hK30 => ?_
  refine go_callL rfl rfl rfl Try.func83 rfl (by decide) rfl (fun w M => countL_any w _ (by first | assumption | omega) (by first | assumption | omega)) ?_
  intro va29 vc29
  refine hK30 _ _ (fun w M => (mem_take 12 M :)) ?_
  refine gao 4 fun K31 hK31 => ?_
  refine go_q rfl rfl (qt_call rfl Try.func61 rfl (by decide) rfl (fun w M => arrows_any w _ _ (mem_rdC M e0))) ?_
  refine hK31 _ _ (fun w M => (mem_take 12 M :)) ?_
  refine gao 5 fun K33 hK33 => ?_
  refine go_callL rfl rfl rfl Try.func83 rfl (by decide) rfl (fun w M => countL_any w _ (by first | assumption | omega) (by first | assumption | omega)) ?_
  intro va32 vc32
  refine hK33 _ _ (fun w M => (mem_take 12 M :)) ?_
  refine gao 7 fun K35 hK35 => ?_
  refine go_callL rfl rfl rfl Try.func59 rfl (by decide) rfl (fun w M => combined_any w _ (_) _ (_) ((mem_own1 (n := 12) M rfl).rd) ((mem_own1 (n := 13) M rfl).rd) (by rw [numL_len]; omega) (by rw [numL_len]; omega) (_) (φ) (fun w' hb i j hi hj => hg w' (M.1.trans (hb.mono M.1.size)) _ _)) ?_
  intro va34 vc34
  refine hK35 _ _ (fun w M => (mem_take 12 M :)) ?_
  refine gav 8 rfl (qt_assign rfl rfl) ?_
  refine ga_done (by kernel_rfl) ?_
  refine gk_then (hK27 _ _ ?_)
  refine gc_seq fun K36 hK36 => ?_
  try simp only [sL]
  refine ga_start _ (fun w M => mem_erase 3 (M)) ?_
  refine gav 0 rfl (qts Try.underlying29 (n := 7)) ?_
  refine gav 1 rfl (qts Try.underlying29 (n := 0)) ?_
  refine gav 3 rfl (qt_move rfl rfl) ?_
  refine gav 4 rfl (qt_move rfl rfl) ?_
  refine gao 2 fun K38 hK38 => ?_
  refine go_callC rfl rfl rfl Try.func79 rfl (by decide) rfl (fun w M => copied_any w _ _ (mem_rdC M ht0)) ?_
  intro ca37 cb37 cc37 cd37 ce37 cf37 cg37 ch37 cu37
  refine hK38 _ _ (fun w M => (mem_erase 3 (mem_take 15 M) :)) ?_
  refine gav 5 rfl (qt_build rfl rfl bt_Functor) ?_
  refine gao 6 fun K39 hK39 => ?_
  refine go_storeS (n := 3) rfl rfl rfl rfl (by kernel_rfl) rfl rfl rfl ?_
  refine hK39 _ _ (fun w M => (mem_erase 3 (mem_take 15 M) :)) ?_
  refine gav 7 rfl (qt_assign rfl rfl) ?_
  refine ga_done (by kernel_rfl) ?_
  refine gk_then (hK36 _ _ ?_)
  refine gc_ret ?_
  refine ret_SI (n := 3) rfl rfl rfl Try.underlying31 rfl (by kernel_rfl) rfl (fun w M => ?_)
  rw [pj_t hP.1 hP.2]; exact retFI_star (F := Fpj c d t φ) (mem_block 10 4 (mem_block 15 4 (mem_block 12 1 (mem_block 14 1 (M)))))

set_option maxHeartbeats 1000000 in
set_option maxRecDepth 100000 in
theorem firstOf_any (w : World) (a b : Int) :
  Calls Try.prog 67 #[.int .i64 a, .int .i64 b] w (RetI w a) := by
 go_enter Try.func67, Try.ntmps67
 refine gc_enter (N := 6) rfl (look_cons (k := 0) rfl (look_cons (k := 1) rfl (look_nil _))) ?_
 refine gc_sr fun K1 hK1 => ?_
 refine gas ?_
 refine gnt (hK1 _ _ ?_)
 refine gc_sr fun K2 hK2 => ?_
 refine gm ?_
 refine gas ?_
 refine gnt (hK2 _ _ ?_)
 refine gc_ret ?_
 refine ret_1 rfl rfl  (fun w M => ?_)
 exact ⟨rfl, M.1⟩

set_option maxHeartbeats 1000000 in
set_option maxRecDepth 100000 in
theorem spec_FirstProjection (w : World) (v : Value) (c : Cat) (u : Value) (d : Cat) (h : RdC w v c) (e : RdC w u d) :
  Calls Try.prog 23 #[v, u] w (RetFI w (fFirstProjection c d).1 (fFirstProjection c d).2) := by
 have h0 := h
 obtain ⟨va, vb, vc, vd, ve, vf, vg, vh, rfl, h1, h2, h3, h4, _⟩ := h.lists
 have e0 := e
 obtain ⟨ua, ub, uc, ud, ue, uf, ug, uh, rfl, e1, e2, e3, e4, _⟩ := e.lists
 go_enter Try.func23, Try.ntmps23
 refine gc_enter (N := 11) rfl (look_cons (k := 0) rfl (look_cons (k := 1) rfl (look_nil _))) ?_
 refine gc_sr fun K1 hK1 => ?_
 refine gop fun K3 hK3 => ?_
 refine go_box rfl rfl rfl rfl rfl ?_
 intro B2
 refine hK3 _ _ ?_
 refine gop fun K5 hK5 => ?_
 refine go_box rfl rfl rfl rfl rfl ?_
 intro B4
 refine hK5 _ _ ?_
 refine gop fun K7 hK7 => ?_
 refine go_alloc (z := (.agg #[.int .i64 0, .slice none 0 0, .slice none 0 0, .slice none 0 0, .slice none 0 0, .int .i64 0, .slice none 0 0, .slice none 0 0, .slice none 0 0, .slice none 0 0, .slice none 0 0, .slice none 0 0])) (cs := [.int .i64 0, .slice none 0 0, .slice none 0 0, .slice none 0 0, .slice none 0 0, .int .i64 0, .slice none 0 0, .slice none 0 0, .slice none 0 0, .slice none 0 0, .slice none 0 0, .slice none 0 0]) rfl rfl rfl (fun w => by kernel_rfl) rfl ?_
 intro B6
 refine hK7 _ _ ?_
 refine gas ?_
 refine gnt (hK1 _ _ ?_)
 refine gc_sr fun K8 hK8 => ?_
 refine gv (qts Try.underlying29 (n := 0)) ?_
 refine gv (qts Try.underlying29 (n := 1)) ?_
 refine gop fun K10 hK10 => ?_
 refine go_callFI rfl rfl rfl Try.func64 rfl (by decide) rfl (fun w M => specPj1_any w _ _ _ _ (mem_rdC M h0) (mem_rdC M e0)) ?_
 intro fx1_9 fk1_9 fx2_9 fk2_9 fx3_9 fk3_9 fx4_9 fk4_9 fx5_9 fk5_9 fx6_9 fk6_9 fx7_9 fk7_9 fx8_9 fk8_9 fx9_9 fk9_9 fx10_9 fk10_9 us9 ut9
 refine hK10 _ _ ?_
 refine gv (qt_extract rfl rfl rfl) ?_
 refine gv (qt_extract rfl rfl rfl) ?_
 refine gop fun K11 hK11 => ?_
 refine go_storeS (n := 2) rfl rfl rfl rfl (by kernel_rfl) rfl rfl rfl ?_
 refine hK11 _ _ ?_
 refine gas ?_
 refine gnt (hK8 _ _ ?_)
 refine gc_ret ?_
 refine ret_SI (n := 2) rfl rfl rfl Try.underlying31 rfl (by kernel_rfl) rfl (fun w M => ?_)
 exact retFI_star (F := (pjF c d (pj1 c d)).1) (mem_block 3 10 (M))

set_option maxHeartbeats 1000000 in
set_option maxRecDepth 100000 in
theorem impl_FirstProjection (w : World) (v : Value) (c : Cat) (u : Value) (d : Cat) (h : RdC w v c) (e : RdC w u d) :
  Calls Try.prog 25 #[v, u] w (RetFI w (fFirstProjection c d).1 (fFirstProjection c d).2) := by
 have h0 := h
 obtain ⟨va, vb, vc, vd, ve, vf, vg, vh, rfl, h1, h2, h3, h4, _⟩ := h.lists
 have e0 := e
 obtain ⟨ua, ub, uc, ud, ue, uf, ug, uh, rfl, e1, e2, e3, e4, _⟩ := e.lists
 go_enter Try.func25, Try.ntmps25
 refine gc_enter (N := 12) rfl (look_cons (k := 0) rfl (look_cons (k := 1) rfl (look_nil _))) ?_
 refine gc_sr fun K1 hK1 => ?_
 refine gop fun K3 hK3 => ?_
 refine go_box rfl rfl rfl rfl rfl ?_
 intro B2
 refine hK3 _ _ ?_
 refine gop fun K5 hK5 => ?_
 refine go_box rfl rfl rfl rfl rfl ?_
 intro B4
 refine hK5 _ _ ?_
 refine gop fun K7 hK7 => ?_
 refine go_alloc (z := (.agg #[.int .i64 0, .slice none 0 0, .slice none 0 0, .slice none 0 0, .slice none 0 0, .int .i64 0, .slice none 0 0, .slice none 0 0, .slice none 0 0, .slice none 0 0, .slice none 0 0, .slice none 0 0])) (cs := [.int .i64 0, .slice none 0 0, .slice none 0 0, .slice none 0 0, .slice none 0 0, .int .i64 0, .slice none 0 0, .slice none 0 0, .slice none 0 0, .slice none 0 0, .slice none 0 0, .slice none 0 0]) rfl rfl rfl (fun w => by kernel_rfl) rfl ?_
 intro B6
 refine hK7 _ _ ?_
 refine gas ?_
 refine gnt (hK1 _ _ ?_)
 refine gc_sr fun K8 hK8 => ?_
 refine gv (qts Try.underlying29 (n := 0)) ?_
 refine gv (qts Try.underlying29 (n := 0)) ?_
 refine gv (qts Try.underlying29 (n := 1)) ?_
 refine gop fun K10 hK10 => ?_
 refine go_callFI rfl rfl rfl Try.func66 rfl (by decide) rfl (fun w M => projected_any w _ _ (mem_rdC M h0) _ _ _ _ (mem_rdC M h0) (mem_rdC M e0) (_) (fun a _ => a) (fun w' hb a b => callsV_f (bnd := []) (vs := [_, _]) (caps := []) Try.func67 rfl (by decide) (firstOf_any w' a b))) ?_
 intro fx1_9 fk1_9 fx2_9 fk2_9 fx3_9 fk3_9 fx4_9 fk4_9 fx5_9 fk5_9 fx6_9 fk6_9 fx7_9 fk7_9 fx8_9 fk8_9 fx9_9 fk9_9 fx10_9 fk10_9 us9 ut9
 refine hK10 _ _ ?_
 refine gv (qt_extract rfl rfl rfl) ?_
 refine gv (qt_extract rfl rfl rfl) ?_
 refine gop fun K11 hK11 => ?_
 refine go_storeS (n := 2) rfl rfl rfl rfl (by kernel_rfl) rfl rfl rfl ?_
 refine hK11 _ _ ?_
 refine gas ?_
 refine gnt (hK8 _ _ ?_)
 refine gc_ret ?_
 refine ret_SI (n := 2) rfl rfl rfl Try.underlying31 rfl (by kernel_rfl) rfl (fun w M => ?_)
 exact retFI_star (F := (pjF c d (pj1 c d)).1) (mem_block 3 10 (M))

set_option maxHeartbeats 1000000 in
set_option maxRecDepth 100000 in
theorem secondOf_any (w : World) (a b : Int) :
  Calls Try.prog 70 #[.int .i64 a, .int .i64 b] w (RetI w b) := by
 go_enter Try.func70, Try.ntmps70
 refine gc_enter (N := 6) rfl (look_cons (k := 0) rfl (look_cons (k := 1) rfl (look_nil _))) ?_
 refine gc_sr fun K1 hK1 => ?_
 refine gas ?_
 refine gnt (hK1 _ _ ?_)
 refine gc_sr fun K2 hK2 => ?_
 refine gm ?_
 refine gas ?_
 refine gnt (hK2 _ _ ?_)
 refine gc_ret ?_
 refine ret_1 rfl rfl  (fun w M => ?_)
 exact ⟨rfl, M.1⟩

set_option maxHeartbeats 1000000 in
set_option maxRecDepth 100000 in
theorem spec_SecondProjection (w : World) (v : Value) (c : Cat) (u : Value) (d : Cat) (h : RdC w v c) (e : RdC w u d) :
  Calls Try.prog 28 #[v, u] w (RetFI w (fSecondProjection c d).1 (fSecondProjection c d).2) := by
 have h0 := h
 obtain ⟨va, vb, vc, vd, ve, vf, vg, vh, rfl, h1, h2, h3, h4, _⟩ := h.lists
 have e0 := e
 obtain ⟨ua, ub, uc, ud, ue, uf, ug, uh, rfl, e1, e2, e3, e4, _⟩ := e.lists
 go_enter Try.func28, Try.ntmps28
 refine gc_enter (N := 11) rfl (look_cons (k := 0) rfl (look_cons (k := 1) rfl (look_nil _))) ?_
 refine gc_sr fun K1 hK1 => ?_
 refine gop fun K3 hK3 => ?_
 refine go_box rfl rfl rfl rfl rfl ?_
 intro B2
 refine hK3 _ _ ?_
 refine gop fun K5 hK5 => ?_
 refine go_box rfl rfl rfl rfl rfl ?_
 intro B4
 refine hK5 _ _ ?_
 refine gop fun K7 hK7 => ?_
 refine go_alloc (z := (.agg #[.int .i64 0, .slice none 0 0, .slice none 0 0, .slice none 0 0, .slice none 0 0, .int .i64 0, .slice none 0 0, .slice none 0 0, .slice none 0 0, .slice none 0 0, .slice none 0 0, .slice none 0 0])) (cs := [.int .i64 0, .slice none 0 0, .slice none 0 0, .slice none 0 0, .slice none 0 0, .int .i64 0, .slice none 0 0, .slice none 0 0, .slice none 0 0, .slice none 0 0, .slice none 0 0, .slice none 0 0]) rfl rfl rfl (fun w => by kernel_rfl) rfl ?_
 intro B6
 refine hK7 _ _ ?_
 refine gas ?_
 refine gnt (hK1 _ _ ?_)
 refine gc_sr fun K8 hK8 => ?_
 refine gv (qts Try.underlying29 (n := 0)) ?_
 refine gv (qts Try.underlying29 (n := 1)) ?_
 refine gop fun K10 hK10 => ?_
 refine go_callFI rfl rfl rfl Try.func64 rfl (by decide) rfl (fun w M => specPj2_any w _ _ _ _ (mem_rdC M h0) (mem_rdC M e0)) ?_
 intro fx1_9 fk1_9 fx2_9 fk2_9 fx3_9 fk3_9 fx4_9 fk4_9 fx5_9 fk5_9 fx6_9 fk6_9 fx7_9 fk7_9 fx8_9 fk8_9 fx9_9 fk9_9 fx10_9 fk10_9 us9 ut9
 refine hK10 _ _ ?_
 refine gv (qt_extract rfl rfl rfl) ?_
 refine gv (qt_extract rfl rfl rfl) ?_
 refine gop fun K11 hK11 => ?_
 refine go_storeS (n := 2) rfl rfl rfl rfl (by kernel_rfl) rfl rfl rfl ?_
 refine hK11 _ _ ?_
 refine gas ?_
 refine gnt (hK8 _ _ ?_)
 refine gc_ret ?_
 refine ret_SI (n := 2) rfl rfl rfl Try.underlying31 rfl (by kernel_rfl) rfl (fun w M => ?_)
 exact retFI_star (F := (pjF c d (pj2 c d)).1) (mem_block 3 10 (M))

set_option maxHeartbeats 1000000 in
set_option maxRecDepth 100000 in
theorem impl_SecondProjection (w : World) (v : Value) (c : Cat) (u : Value) (d : Cat) (h : RdC w v c) (e : RdC w u d) :
  Calls Try.prog 29 #[v, u] w (RetFI w (fSecondProjection c d).1 (fSecondProjection c d).2) := by
 have h0 := h
 obtain ⟨va, vb, vc, vd, ve, vf, vg, vh, rfl, h1, h2, h3, h4, _⟩ := h.lists
 have e0 := e
 obtain ⟨ua, ub, uc, ud, ue, uf, ug, uh, rfl, e1, e2, e3, e4, _⟩ := e.lists
 go_enter Try.func29, Try.ntmps29
 refine gc_enter (N := 12) rfl (look_cons (k := 0) rfl (look_cons (k := 1) rfl (look_nil _))) ?_
 refine gc_sr fun K1 hK1 => ?_
 refine gop fun K3 hK3 => ?_
 refine go_box rfl rfl rfl rfl rfl ?_
 intro B2
 refine hK3 _ _ ?_
 refine gop fun K5 hK5 => ?_
 refine go_box rfl rfl rfl rfl rfl ?_
 intro B4
 refine hK5 _ _ ?_
 refine gop fun K7 hK7 => ?_
 refine go_alloc (z := (.agg #[.int .i64 0, .slice none 0 0, .slice none 0 0, .slice none 0 0, .slice none 0 0, .int .i64 0, .slice none 0 0, .slice none 0 0, .slice none 0 0, .slice none 0 0, .slice none 0 0, .slice none 0 0])) (cs := [.int .i64 0, .slice none 0 0, .slice none 0 0, .slice none 0 0, .slice none 0 0, .int .i64 0, .slice none 0 0, .slice none 0 0, .slice none 0 0, .slice none 0 0, .slice none 0 0, .slice none 0 0]) rfl rfl rfl (fun w => by kernel_rfl) rfl ?_
 intro B6
 refine hK7 _ _ ?_
 refine gas ?_
 refine gnt (hK1 _ _ ?_)
 refine gc_sr fun K8 hK8 => ?_
 refine gv (qts Try.underlying29 (n := 1)) ?_
 refine gv (qts Try.underlying29 (n := 0)) ?_
 refine gv (qts Try.underlying29 (n := 1)) ?_
 refine gop fun K10 hK10 => ?_
 refine go_callFI rfl rfl rfl Try.func66 rfl (by decide) rfl (fun w M => projected_any w _ _ (mem_rdC M e0) _ _ _ _ (mem_rdC M h0) (mem_rdC M e0) (_) (fun _ b => b) (fun w' hb a b => callsV_f (bnd := []) (vs := [_, _]) (caps := []) Try.func70 rfl (by decide) (secondOf_any w' a b))) ?_
 intro fx1_9 fk1_9 fx2_9 fk2_9 fx3_9 fk3_9 fx4_9 fk4_9 fx5_9 fk5_9 fx6_9 fk6_9 fx7_9 fk7_9 fx8_9 fk8_9 fx9_9 fk9_9 fx10_9 fk10_9 us9 ut9
 refine hK10 _ _ ?_
 refine gv (qt_extract rfl rfl rfl) ?_
 refine gv (qt_extract rfl rfl rfl) ?_
 refine gop fun K11 hK11 => ?_
 refine go_storeS (n := 2) rfl rfl rfl rfl (by kernel_rfl) rfl rfl rfl ?_
 refine hK11 _ _ ?_
 refine gas ?_
 refine gnt (hK8 _ _ ?_)
 refine gc_ret ?_
 refine ret_SI (n := 2) rfl rfl rfl Try.underlying31 rfl (by kernel_rfl) rfl (fun w M => ?_)
 exact retFI_star (F := (pjF c d (pj2 c d)).1) (mem_block 3 10 (M))

end Go.Proofs.Ytpfcfhjpgngneab
