import Derived.Test.YtpcabkdkdnchaaaGreatZ26
import Derived.Test.YtpcabkdkdnchaaaGreatZ16
import Derived.Test.YtpcabkdkdnchaaaGreatZ22
set_option linter.unusedSimpArgs false
set_option linter.unusedVariables false
set_option linter.unusedSectionVars false
namespace Go.Proofs.YtpcabkdkdnchaaaGreat
open Go.RowKit
noncomputable def fCommaLeft (F G : Fct) : Fct × Int := (⟨cmC F G, (cmFf F G).S, (cmO F G).map (fun x => x.1), (cmA F G).map (fun x => x.2.2.1)⟩, cmE F G)
noncomputable def fCommaRight (F G : Fct) : Fct × Int := (⟨cmC F G, (cmG F G).S, (cmO F G).map (fun x => x.2.1), (cmA F G).map (fun x => x.2.2.2)⟩, cmE F G)
theorem cml_n {F G : Fct} (h : ¬ cmE F G = 0) : fCommaLeft F G = (fct0, cmE F G) ∧ fCommaRight F G = (fct0, cmE F G) := by
 have hn := cmx_n rfl h
 unfold fCommaLeft fCommaRight; rw [hn.1, hn.2.1, hn.2.2.1, hn.2.2.2.1, hn.2.2.2.2.1]; exact ⟨rfl, rfl⟩
theorem bound_cml {F G : Fct} (h : cmE F G = 0) {A : Cat} (hA : fIsCategory A = true) (φ : Ent Int → Int) (ψ : Ent (Int × Int) → Int) : mzF ⟨cmC F G, A, (cmO F G).map φ, (cmA F G).map ψ⟩ ≤ 3500000000000000 := by
 have h1 := comma_small h; have h2 := mz_cat hA; have h3 := cmO_len F G; have h4 := cmA_len F G
 show mzC (cmC F G) + mzC A + ((cmO F G).map φ).length + ((cmA F G).map ψ).length ≤ _
 rw [(cmx_t h).2.2.1, List.length_map, List.length_map]; omega
theorem cmE_csp {F G : Fct} (h : cmE F G = 0) : CspP F G := by
 by_cases h1 : cspE F G = 0
 ·exact (csp_0 h1).1
 ·rw [cme_1 h1] at h; exact absurd h h1
theorem bound_CommaLeft (F G : Fct) : mzF (fCommaLeft F G).1 ≤ 3500000000000000 := by
 by_cases h : cmE F G = 0
 ·exact bound_cml h (by rw [(cmx_t h).1]; exact (cmE_csp h).f.cs) _ _
 ·rw [(cml_n h).1]; show mzF fct0 ≤ _; decide
theorem bound_CommaRight (F G : Fct) : mzF (fCommaRight F G).1 ≤ 3500000000000000 := by
 by_cases h : cmE F G = 0
 ·exact bound_cml h (by rw [(cmx_t h).2.1]; exact (cmE_csp h).g.cs) _ _
 ·rw [(cml_n h).2]; show mzF fct0 ≤ _; decide
theorem col_map3 (es : List (Ent Int)) : colR (es.map row3) 0 = es.map (fun x => x.1) ∧ colR (es.map row3) 1 = es.map (fun x => x.2.1) := by
 unfold colR; rw [List.map_map, List.map_map]; exact ⟨rfl, rfl⟩
theorem col_map4 (es : List (Ent (Int × Int))) : colR (es.map row4) 2 = es.map (fun x => x.2.2.1) ∧ colR (es.map row4) 3 = es.map (fun x => x.2.2.2) := by
 unfold colR; rw [List.map_map, List.map_map]; exact ⟨rfl, rfl⟩
theorem cm_r3 {es : List (Ent Int)} {k : Int} (hk : k < 3) : ∀ i : Nat, i < (es.map row3).length → k < (row2 (es.map row3) (i : Int)).length := fun i hi => by
 rw [List.length_map] at hi
 rw [row2_map hi]; exact hk
theorem cm_r4 {es : List (Ent (Int × Int))} {k : Int} (hk : k < 4) : ∀ i : Nat, i < (es.map row4).length → k < (row2 (es.map row4) (i : Int)).length := fun i hi => by
 rw [List.length_map] at hi
 rw [row2_map hi]; exact hk
set_option maxHeartbeats 1000000 in
set_option maxRecDepth 100000 in
theorem lpO_any (w : World) (x : Ent Int) :
  Calls Tryz.prog 44 #[.agg #[.int .i64 x.1, .int .i64 x.2.1, .int .i64 x.2.2]] w (RetV w (.int .i64 x.1)) := by
 go_enter Tryz.func44, Tryz.ntmps44
 refine gc_enter (N := 5) rfl (look_cons (k := 0) rfl (look_nil _)) ?_
 refine gc_sr fun K1 hK1 => ?_
 refine gop fun K3 hK3 => ?_
 refine go_box rfl rfl rfl rfl rfl ?_
 intro B2
 refine hK3 _ _ ?_
 refine gas ?_
 refine gnt (hK1 _ _ ?_)
 refine gc_sr fun K4 hK4 => ?_
 refine gv (qtf Tryz.underlying67 (z := 0) (off := 0)) ?_
 refine gv (qtl Tryz.underlying2 (n := 0)) ?_
 refine gas ?_
 refine gnt (hK4 _ _ ?_)
 refine gc_ret ?_
 refine ret_1 rfl rfl  (fun w M => ?_)
 exact ⟨rfl, M.1⟩
set_option maxHeartbeats 1000000 in
set_option maxRecDepth 100000 in
theorem rpO_any (w : World) (x : Ent Int) :
  Calls Tryz.prog 50 #[.agg #[.int .i64 x.1, .int .i64 x.2.1, .int .i64 x.2.2]] w (RetV w (.int .i64 x.2.1)) := by
 go_enter Tryz.func50, Tryz.ntmps50
 refine gc_enter (N := 5) rfl (look_cons (k := 0) rfl (look_nil _)) ?_
 refine gc_sr fun K1 hK1 => ?_
 refine gop fun K3 hK3 => ?_
 refine go_box rfl rfl rfl rfl rfl ?_
 intro B2
 refine hK3 _ _ ?_
 refine gas ?_
 refine gnt (hK1 _ _ ?_)
 refine gc_sr fun K4 hK4 => ?_
 refine gv (qtf Tryz.underlying67 (z := 0) (off := 1)) ?_
 refine gv (qtl Tryz.underlying2 (n := 0)) ?_
 refine gas ?_
 refine gnt (hK4 _ _ ?_)
 refine gc_ret ?_
 refine ret_1 rfl rfl  (fun w M => ?_)
 exact ⟨rfl, M.1⟩
set_option maxHeartbeats 1000000 in
set_option maxRecDepth 100000 in
theorem lpA_any (w : World) (x : Ent (Int × Int)) :
  Calls Tryz.prog 46 #[.agg #[.int .i64 x.1, .int .i64 x.2.1, .int .i64 x.2.2.1, .int .i64 x.2.2.2]] w (RetV w (.int .i64 x.2.2.1)) := by
 go_enter Tryz.func46, Tryz.ntmps46
 refine gc_enter (N := 5) rfl (look_cons (k := 0) rfl (look_nil _)) ?_
 refine gc_sr fun K1 hK1 => ?_
 refine gop fun K3 hK3 => ?_
 refine go_box rfl rfl rfl rfl rfl ?_
 intro B2
 refine hK3 _ _ ?_
 refine gas ?_
 refine gnt (hK1 _ _ ?_)
 refine gc_sr fun K4 hK4 => ?_
 refine gv (qtf Tryz.underlying74 (z := 0) (off := 2)) ?_
 refine gv (qtl Tryz.underlying2 (n := 0)) ?_
 refine gas ?_
 refine gnt (hK4 _ _ ?_)
 refine gc_ret ?_
 refine ret_1 rfl rfl  (fun w M => ?_)
 exact ⟨rfl, M.1⟩
set_option maxHeartbeats 1000000 in
set_option maxRecDepth 100000 in
theorem rpA_any (w : World) (x : Ent (Int × Int)) :
  Calls Tryz.prog 51 #[.agg #[.int .i64 x.1, .int .i64 x.2.1, .int .i64 x.2.2.1, .int .i64 x.2.2.2]] w (RetV w (.int .i64 x.2.2.2)) := by
 go_enter Tryz.func51, Tryz.ntmps51
 refine gc_enter (N := 5) rfl (look_cons (k := 0) rfl (look_nil _)) ?_
 refine gc_sr fun K1 hK1 => ?_
 refine gop fun K3 hK3 => ?_
 refine go_box rfl rfl rfl rfl rfl ?_
 intro B2
 refine hK3 _ _ ?_
 refine gas ?_
 refine gnt (hK1 _ _ ?_)
 refine gc_sr fun K4 hK4 => ?_
 refine gv (qtf Tryz.underlying74 (z := 0) (off := 3)) ?_
 refine gv (qtl Tryz.underlying2 (n := 0)) ?_
 refine gas ?_
 refine gnt (hK4 _ _ ?_)
 refine gc_ret ?_
 refine ret_1 rfl rfl  (fun w M => ?_)
 exact ⟨rfl, M.1⟩
set_option maxHeartbeats 1000000 in
set_option maxRecDepth 100000 in
theorem each_o (w : World) (a : Option Addr) (q : Nat) (es : List (Ent Int)) (fv : Value) (φ : Ent Int → Int) (hl : es.length ≤ 1000) (hE : RdE0 lab_co w (.slice a es.length q) es) (hf : ∀ w (x : Ent Int), CallsV fv [.agg #[.int .i64 x.1, .int .i64 x.2.1, .int .i64 x.2.2]] w (RetV w (.int .i64 (φ x)))) :
  Calls Tryz.prog 43 #[.slice a es.length q, fv] w (RetL w (es.map φ)) := by
 go_enter Tryz.func43, Tryz.ntmps43
 refine gc_enter (N := 22) rfl (look_cons (k := 0) rfl (look_cons (k := 1) rfl (look_nil _))) ?_
 refine gc_sr fun K1 hK1 => ?_
 refine gas ?_
 refine gnt (hK1 _ _ ?_)
 refine gc_sr fun K2 hK2 => ?_
 refine gas ?_
 refine gnt (hK2 _ _ ?_)
 refine gc_seq fun K3 hK3 => ?_
 refine gc_sr fun K4 hK4 => ?_
 refine gm ?_
 refine gv (qt_len rfl rfl (lab_ul0 lab_co) (fun w M => lenV_E0 (mem_rdE0 M hE))) ?_
 refine gm ?_
 refine gnt (hK4 _ _ ?_)
 refine gc_block ?_
 refine gc_nilS ?_
 try simp only [sL]
 refine gc_loopT ([(0, _), (1, _), (4, _), (8, _), (9, _)] : Env) (fun s : Nat × (Option Addr) × Nat => (fun (k : Nat) (b : Option Addr) (r : Nat) => (([(5, .slice b ((es.take k).map φ).length r), (10, .int .i64 (k : Int))] : Env), ([(0, own1I (.slice b ((es.take k).map φ).length r) ((es.take k).map φ))] : List (Nat × Itm)), k ≤ es.length, es.length - k)) s.1 s.2.1 s.2.2) ((0, _, _)) (by repeat first | exact sub_nil | refine sub_cons rfl ?_) rfl (Nat.zero_le _) ?_
 rintro ⟨k, b, r⟩ hinv KL5 hKL5
 simp only [sU, sL] at hinv hKL5 ⊢
 have hk := hinv
 have htk : ((es.take k).map φ).length ≤ 1000 := by rw [List.length_map, List.length_take]; omega
 refine gc_sr fun K6 hK6 => ?_
 refine gv (qt_lss rfl rfl rfl) ?_
 refine gnt (hK6 _ _ ?_)
 refine gc_seq fun K7 hK7 => ?_
 refine gc_cond rfl (fun hc0 => ?_) (fun hc0 => ?_)
 ·try simp only [sA] at hc0
  refine gc_skip ?_
  refine gk_then (hK7 _ _ ?_)
  refine gc_seq fun K8 hK8 => ?_
  refine gc_block ?_
  refine gc_sr fun K9 hK9 => ?_
  refine gv (qt_indexE0 lab_co rfl rfl rfl rfl (fun w M => lenA_E0 (mem_rdE0 M hE)) (by omega) (by omega)) ?_
  refine gv (qt_load_co rfl rfl rfl (fun w M => mem_rdE0 M hE) (by omega) (by omega)) ?_
  refine gop fun K11 hK11 => ?_
  refine go_alloc (z := (.agg #[.int .i64 0, .int .i64 0, .int .i64 0])) (cs := [.int .i64 0, .int .i64 0, .int .i64 0]) rfl rfl rfl (fun w => by kernel_rfl) rfl ?_
  intro B10
  refine hK11 _ _ ?_
  refine gop fun K12 hK12 => ?_
  refine go_storeS (n := 1) rfl rfl rfl rfl (by kernel_rfl) rfl rfl rfl ?_
  refine hK12 _ _ ?_
  refine gnt (hK9 _ _ ?_)
  refine gc_region ?_
  refine gm ?_
  refine gm ?_
  refine gv (qts Tryz.underlying67 (n := 1)) ?_
  refine g_q (.free rfl) rfl rfl (qt_callV rfl rfl rfl (fun w M => hf w (atE es (k : Int)))) ?_
  refine gop fun K14 hK14 => ?_
  refine go_slice1 rfl rfl rfl rfl Tryz.underlying22 ?_
  intro B13
  refine hK14 _ _ ?_
  refine gop fun K16 hK16 => ?_
  refine go_append (n := 0) (m := 2) rfl rfl rfl Tryz.underlying22 rfl rfl rfl rfl (by omega) ?_
  intro va15 vc15
  refine hK16 _ _ ?_
  refine gas ?_
  refine g_nil ?_
  refine gk_block ?_
  refine gk_then (hK8 _ _ ?_)
  refine gc_region ?_
  refine gv (qt_add rfl rfl rfl (by omega)) ?_
  refine gm ?_
  refine g_nil ?_
  rw [mapE_succ (f := φ) (by omega)]
  refine gk_then (gk_take 1 ?_)
  refine gk_sub ?hs_17 (hKL5 ((k + 1, _, _)) ?hi_17 ?hm_17)
  case hs_17 => repeat first | exact sub_nil | refine sub_cons rfl ?_
  case hi_17 => omega
  case hm_17 => omega
 ·try simp only [sA] at hc0
  refine gc_exit ?_
  refine gk_then_exit ?_
  refine gk_then_exit ?_
  refine gk_block_hit ?_
  refine gk_then (hK3 _ _ ?_)
  refine gc_sr fun K18 hK18 => ?_
  refine gm ?_
  refine gas ?_
  refine gnt (hK18 _ _ ?_)
  refine gc_ret ?_
  refine ret_1 rfl rfl  (fun w M => ?_)
  obtain rfl : k = es.length := by omega
  simp only [List.take_length] at M ⊢
  exact ⟨_, rfl, mem_own1 (n := 0) M rfl, M.1⟩
set_option maxHeartbeats 1000000 in
set_option maxRecDepth 100000 in
theorem each_a (w : World) (a : Option Addr) (q : Nat) (es : List (Ent (Int × Int))) (fv : Value) (φ : Ent (Int × Int) → Int) (hl : es.length ≤ 1000) (hE : RdE0 lab_ca w (.slice a es.length q) es) (hf : ∀ w (x : Ent (Int × Int)), CallsV fv [.agg #[.int .i64 x.1, .int .i64 x.2.1, .int .i64 x.2.2.1, .int .i64 x.2.2.2]] w (RetV w (.int .i64 (φ x)))) :
  Calls Tryz.prog 45 #[.slice a es.length q, fv] w (RetL w (es.map φ)) := by
 go_enter Tryz.func45, Tryz.ntmps45
 refine gc_enter (N := 22) rfl (look_cons (k := 0) rfl (look_cons (k := 1) rfl (look_nil _))) ?_
 refine gc_sr fun K1 hK1 => ?_
 refine gas ?_
 refine gnt (hK1 _ _ ?_)
 refine gc_sr fun K2 hK2 => ?_
 refine gas ?_
 refine gnt (hK2 _ _ ?_)
 refine gc_seq fun K3 hK3 => ?_
 refine gc_sr fun K4 hK4 => ?_
 refine gm ?_
 refine gv (qt_len rfl rfl (lab_ul0 lab_ca) (fun w M => lenV_E0 (mem_rdE0 M hE))) ?_
 refine gm ?_
 refine gnt (hK4 _ _ ?_)
 refine gc_block ?_
 refine gc_nilS ?_
 try simp only [sL]
 refine gc_loopT ([(0, _), (1, _), (4, _), (8, _), (9, _)] : Env) (fun s : Nat × (Option Addr) × Nat => (fun (k : Nat) (b : Option Addr) (r : Nat) => (([(5, .slice b ((es.take k).map φ).length r), (10, .int .i64 (k : Int))] : Env), ([(0, own1I (.slice b ((es.take k).map φ).length r) ((es.take k).map φ))] : List (Nat × Itm)), k ≤ es.length, es.length - k)) s.1 s.2.1 s.2.2) ((0, _, _)) (by repeat first | exact sub_nil | refine sub_cons rfl ?_) rfl (Nat.zero_le _) ?_
 rintro ⟨k, b, r⟩ hinv KL5 hKL5
 simp only [sU, sL] at hinv hKL5 ⊢
 have hk := hinv
 have htk : ((es.take k).map φ).length ≤ 1000 := by rw [List.length_map, List.length_take]; omega
 refine gc_sr fun K6 hK6 => ?_
 refine gv (qt_lss rfl rfl rfl) ?_
 refine gnt (hK6 _ _ ?_)
 refine gc_seq fun K7 hK7 => ?_
 refine gc_cond rfl (fun hc0 => ?_) (fun hc0 => ?_)
 ·try simp only [sA] at hc0
  refine gc_skip ?_
  refine gk_then (hK7 _ _ ?_)
  refine gc_seq fun K8 hK8 => ?_
  refine gc_block ?_
  refine gc_sr fun K9 hK9 => ?_
  refine gv (qt_indexE0 lab_ca rfl rfl rfl rfl (fun w M => lenA_E0 (mem_rdE0 M hE)) (by omega) (by omega)) ?_
  refine gv (qt_load_ca rfl rfl rfl (fun w M => mem_rdE0 M hE) (by omega) (by omega)) ?_
  refine gop fun K11 hK11 => ?_
  refine go_alloc (z := (.agg #[.int .i64 0, .int .i64 0, .int .i64 0, .int .i64 0])) (cs := [.int .i64 0, .int .i64 0, .int .i64 0, .int .i64 0]) rfl rfl rfl (fun w => by kernel_rfl) rfl ?_
  intro B10
  refine hK11 _ _ ?_
  refine gop fun K12 hK12 => ?_
  refine go_storeS (n := 1) rfl rfl rfl rfl (by kernel_rfl) rfl rfl rfl ?_
  refine hK12 _ _ ?_
  refine gnt (hK9 _ _ ?_)
  refine gc_region ?_
  refine gm ?_
  refine gm ?_
  refine gv (qts Tryz.underlying74 (n := 1)) ?_
  refine g_q (.free rfl) rfl rfl (qt_callV rfl rfl rfl (fun w M => hf w (atE es (k : Int)))) ?_
  refine gop fun K14 hK14 => ?_
  refine go_slice1 rfl rfl rfl rfl Tryz.underlying22 ?_
  intro B13
  refine hK14 _ _ ?_
  refine gop fun K16 hK16 => ?_
  refine go_append (n := 0) (m := 2) rfl rfl rfl Tryz.underlying22 rfl rfl rfl rfl (by omega) ?_
  intro va15 vc15
  refine hK16 _ _ ?_
  refine gas ?_
  refine g_nil ?_
  refine gk_block ?_
  refine gk_then (hK8 _ _ ?_)
  refine gc_region ?_
  refine gv (qt_add rfl rfl rfl (by omega)) ?_
  refine gm ?_
  refine g_nil ?_
  rw [mapE_succ (f := φ) (by omega)]
  refine gk_then (gk_take 1 ?_)
  refine gk_sub ?hs_17 (hKL5 ((k + 1, _, _)) ?hi_17 ?hm_17)
  case hs_17 => repeat first | exact sub_nil | refine sub_cons rfl ?_
  case hi_17 => omega
  case hm_17 => omega
 ·try simp only [sA] at hc0
  refine gc_exit ?_
  refine gk_then_exit ?_
  refine gk_then_exit ?_
  refine gk_block_hit ?_
  refine gk_then (hK3 _ _ ?_)
  refine gc_sr fun K18 hK18 => ?_
  refine gm ?_
  refine gas ?_
  refine gnt (hK18 _ _ ?_)
  refine gc_ret ?_
  refine ret_1 rfl rfl  (fun w M => ?_)
  obtain rfl : k = es.length := by omega
  simp only [List.take_length] at M ⊢
  exact ⟨_, rfl, mem_own1 (n := 0) M rfl, M.1⟩
set_option maxHeartbeats 8000000 in
set_option maxRecDepth 100000 in
theorem impl_CommaLeft (w : World) (v : Value) (F : Fct) (u : Value) (G : Fct) (h : RdF w v F) (e : RdF w u G) :
  Calls Tryz.prog 14 #[v, u] w (RetFI w (fCommaLeft F G).1 (fCommaLeft F G).2) := by
 have h0 := h
 obtain ⟨vx1, vx2, vx3, vx4, vx5, vx6, vx7, vx8, vx9, vx10, vk1, vk2, vk3, vk4, vk5, vk6, vk7, vk8, vk9, vk10, rfl, h1, h2, h3, h4, h5, h6, h7, h8, h9, h10⟩ := h.lists
 have e0 := e
 obtain ⟨ux1, ux2, ux3, ux4, ux5, ux6, ux7, ux8, ux9, ux10, uk1, uk2, uk3, uk4, uk5, uk6, uk7, uk8, uk9, uk10, rfl, e1, e2, e3, e4, e5, e6, e7, e8, e9, e10⟩ := e.lists
 go_enter Tryz.func14, Tryz.ntmps14
 refine gc_enter (N := 30) rfl (look_cons (k := 0) rfl (look_cons (k := 1) rfl (look_nil _))) ?_
 refine gc_sr fun K1 hK1 => ?_
 refine gop fun K3 hK3 => ?_
 refine go_box rfl rfl rfl rfl rfl ?_
 intro B2
 refine hK3 _ _ ?_
 refine gop fun K5 hK5 => ?_
 refine go_box rfl rfl rfl rfl rfl ?_
 intro B4
 refine hK5 _ _ ?_
 refine gop fun K7 hK7 => ?_
 refine go_alloc (z := (.agg #[.int .i64 0, .slice none 0 0, .slice none 0 0, .slice none 0 0, .slice none 0 0, .int .i64 0, .slice none 0 0, .slice none 0 0, .slice none 0 0, .slice none 0 0, .slice none 0 0, .slice none 0 0])) (cs := [.int .i64 0, .slice none 0 0, .slice none 0 0, .slice none 0 0, .slice none 0 0, .int .i64 0, .slice none 0 0, .slice none 0 0, .slice none 0 0, .slice none 0 0, .slice none 0 0, .slice none 0 0]) rfl rfl rfl (fun w => by kernel_rfl) rfl ?_
 intro B6
 refine hK7 _ _ ?_
 refine gas ?_
 refine gnt (hK1 _ _ ?_)
 refine gc_sr fun K8 hK8 => ?_
 refine gv (qts Tryz.underlying31 (n := 0)) ?_
 refine gv (qts Tryz.underlying31 (n := 1)) ?_
 refine gop fun K10 hK10 => ?_
 refine go_callCS rfl rfl rfl Tryz.func42 rfl (by decide) rfl (fun w M => commaOf_any w _ _ _ _ (mem_rdF M h0) (mem_rdF M e0)) ?_
 intro px1_9 pk1_9 px2_9 pk2_9 px3_9 pk3_9 px4_9 pk4_9 px5_9 pk5_9 px6_9 pk6_9 px7_9 pk7_9 px8_9 pk8_9 px9_9 pk9_9 px10_9 pk10_9 py1_9 pl1_9 py2_9 pl2_9 py3_9 pl3_9 py4_9 pl4_9 py5_9 pl5_9 py6_9 pl6_9 py7_9 pl7_9 py8_9 pl8_9 py9_9 pl9_9 py10_9 pl10_9 pc1_9 pd1_9 pc2_9 pd2_9 pc3_9 pd3_9 pc4_9 pd4_9 oa9 oq9 ra9 rq9 pu9 pv9 pw9 pz9 pp9
 refine hK10 _ _ ?_
 refine gm ?_
 refine gv (qt_extract rfl rfl rfl) ?_
 refine gv (qt_extract rfl rfl rfl) ?_
 refine gop fun K12 hK12 => ?_
 refine go_alloc (z := (.agg #[.int .i64 0, .slice none 0 0, .slice none 0 0, .slice none 0 0, .slice none 0 0, .int .i64 0, .slice none 0 0, .slice none 0 0, .slice none 0 0, .slice none 0 0, .slice none 0 0, .slice none 0 0, .int .i64 0, .slice none 0 0, .slice none 0 0, .slice none 0 0, .slice none 0 0, .int .i64 0, .slice none 0 0, .slice none 0 0, .slice none 0 0, .slice none 0 0, .slice none 0 0, .slice none 0 0, .int .i64 0, .slice none 0 0, .slice none 0 0, .slice none 0 0, .slice none 0 0, .slice none 0 0, .slice none 0 0])) (cs := [.int .i64 0, .slice none 0 0, .slice none 0 0, .slice none 0 0, .slice none 0 0, .int .i64 0, .slice none 0 0, .slice none 0 0, .slice none 0 0, .slice none 0 0, .slice none 0 0, .slice none 0 0, .int .i64 0, .slice none 0 0, .slice none 0 0, .slice none 0 0, .slice none 0 0, .int .i64 0, .slice none 0 0, .slice none 0 0, .slice none 0 0, .slice none 0 0, .slice none 0 0, .slice none 0 0, .int .i64 0, .slice none 0 0, .slice none 0 0, .slice none 0 0, .slice none 0 0, .slice none 0 0, .slice none 0 0]) rfl rfl rfl (fun w => by kernel_rfl) rfl ?_
 intro B11
 refine hK12 _ _ ?_
 refine gop fun K13 hK13 => ?_
 refine go_storeS (n := 29) rfl rfl rfl rfl (by kernel_rfl) rfl rfl rfl ?_
 refine hK13 _ _ ?_
 refine gas ?_
 refine gnt (hK8 _ _ ?_)
 refine gc_sr fun K14 hK14 => ?_
 refine gv (qtf Tryz.underlying62 (z := 0) (off := 29)) ?_
 refine gv (qtl Tryz.underlying59 (n := 29)) ?_
 refine gop fun K16 hK16 => ?_
 refine go_callL rfl rfl rfl Tryz.func43 rfl (by decide) rfl (fun w M => each_o w _ _ _ _ (fun x => x.1) (cmO_len F G) (mem_ownE0 (n := 23) M rfl) (fun w x => callsV_f (bnd := []) (vs := [_]) (caps := []) Tryz.func44 rfl (by decide) (lpO_any w x))) ?_
 intro va15 vc15
 refine hK16 _ _ ?_
 refine gas ?_
 refine gnt (hK14 _ _ ?_)
 refine gc_seq fun K17 hK17 => ?_
 try simp only [sL]
 refine ga_start _ (fun w M => mem_erase 2 (M)) ?_
 refine gav 0 rfl (qtf Tryz.underlying62 (z := 4) (off := 24)) ?_
 refine gav 1 rfl (qt_loadP (n := 28) (z := 5) rfl rfl Tryz.underlying29 rfl (by kernel_rfl) rfl (by first | decide | exact Nat.le_refl _ | simp)) ?_
 refine gav 2 rfl (qtf Tryz.underlying62 (z := 23) (off := 0)) ?_
 refine gav 3 rfl (qtf Tryz.underlying58 (z := 11) (off := 0)) ?_
 refine gav 4 rfl (qtf Tryz.underlying31 (z := 4) (off := 0)) ?_
 refine gav 5 rfl (qt_loadP (n := 28) (z := 5) rfl rfl Tryz.underlying29 rfl (by kernel_rfl) rfl (by first | decide | exact Nat.le_refl _ | simp)) ?_
 refine gav 6 rfl (qt_move rfl rfl) ?_
 refine gav 7 rfl (qtf Tryz.underlying62 (z := 0) (off := 30)) ?_
 refine gav 8 rfl (qtl Tryz.underlying60 (n := 28)) ?_
 refine gav 11 rfl (qt_move rfl rfl) ?_
 refine gao 9 fun K19 hK19 => ?_
 refine go_callL rfl rfl rfl Tryz.func45 rfl (by decide) rfl (fun w M => each_a w _ _ _ _ (fun x => x.2.2.1) (cmA_len F G) (mem_ownE0 (n := 28) M rfl) (fun w x => callsV_f (bnd := []) (vs := [_]) (caps := []) Tryz.func46 rfl (by decide) (lpA_any w x))) ?_
 intro va18 vc18
 refine hK19 _ _ (fun w M => (mem_erase 2 (mem_take 31 M) :)) ?_
 refine gav 10 rfl (qt_build rfl rfl bt_Functor) ?_
 refine gao 12 fun K20 hK20 => ?_
 refine go_storeS (n := 2) rfl rfl rfl rfl (by kernel_rfl) rfl rfl rfl ?_
 refine hK20 _ _ (fun w M => (mem_erase 2 (mem_take 31 M) :)) ?_
 refine gav 13 rfl (qt_assign rfl rfl) ?_
 refine ga_done (by kernel_rfl) ?_
 refine gk_then (hK17 _ _ ?_)
 refine gc_ret ?_
 refine ret_SI (n := 2) rfl rfl rfl Tryz.underlying31 rfl (by kernel_rfl) rfl (fun w M => ?_)
 try simp only [sL] at M
 exact retFI_star (F := ⟨cmC F G, (cmFf F G).S, (cmO F G).map (fun x => x.1), (cmA F G).map (fun x => x.2.2.1)⟩) (mem_block 26 4 (mem_block 5 4 (mem_block 30 2 (M))))
set_option maxHeartbeats 8000000 in
set_option maxRecDepth 100000 in
theorem impl_CommaRight (w : World) (v : Value) (F : Fct) (u : Value) (G : Fct) (h : RdF w v F) (e : RdF w u G) :
  Calls Tryz.prog 19 #[v, u] w (RetFI w (fCommaRight F G).1 (fCommaRight F G).2) := by
 have h0 := h
 obtain ⟨vx1, vx2, vx3, vx4, vx5, vx6, vx7, vx8, vx9, vx10, vk1, vk2, vk3, vk4, vk5, vk6, vk7, vk8, vk9, vk10, rfl, h1, h2, h3, h4, h5, h6, h7, h8, h9, h10⟩ := h.lists
 have e0 := e
 obtain ⟨ux1, ux2, ux3, ux4, ux5, ux6, ux7, ux8, ux9, ux10, uk1, uk2, uk3, uk4, uk5, uk6, uk7, uk8, uk9, uk10, rfl, e1, e2, e3, e4, e5, e6, e7, e8, e9, e10⟩ := e.lists
 go_enter Tryz.func19, Tryz.ntmps19
 refine gc_enter (N := 30) rfl (look_cons (k := 0) rfl (look_cons (k := 1) rfl (look_nil _))) ?_
 refine gc_sr fun K1 hK1 => ?_
 refine gop fun K3 hK3 => ?_
 refine go_box rfl rfl rfl rfl rfl ?_
 intro B2
 refine hK3 _ _ ?_
 refine gop fun K5 hK5 => ?_
 refine go_box rfl rfl rfl rfl rfl ?_
 intro B4
 refine hK5 _ _ ?_
 refine gop fun K7 hK7 => ?_
 refine go_alloc (z := (.agg #[.int .i64 0, .slice none 0 0, .slice none 0 0, .slice none 0 0, .slice none 0 0, .int .i64 0, .slice none 0 0, .slice none 0 0, .slice none 0 0, .slice none 0 0, .slice none 0 0, .slice none 0 0])) (cs := [.int .i64 0, .slice none 0 0, .slice none 0 0, .slice none 0 0, .slice none 0 0, .int .i64 0, .slice none 0 0, .slice none 0 0, .slice none 0 0, .slice none 0 0, .slice none 0 0, .slice none 0 0]) rfl rfl rfl (fun w => by kernel_rfl) rfl ?_
 intro B6
 refine hK7 _ _ ?_
 refine gas ?_
 refine gnt (hK1 _ _ ?_)
 refine gc_sr fun K8 hK8 => ?_
 refine gv (qts Tryz.underlying31 (n := 0)) ?_
 refine gv (qts Tryz.underlying31 (n := 1)) ?_
 refine gop fun K10 hK10 => ?_
 refine go_callCS rfl rfl rfl Tryz.func42 rfl (by decide) rfl (fun w M => commaOf_any w _ _ _ _ (mem_rdF M h0) (mem_rdF M e0)) ?_
 intro px1_9 pk1_9 px2_9 pk2_9 px3_9 pk3_9 px4_9 pk4_9 px5_9 pk5_9 px6_9 pk6_9 px7_9 pk7_9 px8_9 pk8_9 px9_9 pk9_9 px10_9 pk10_9 py1_9 pl1_9 py2_9 pl2_9 py3_9 pl3_9 py4_9 pl4_9 py5_9 pl5_9 py6_9 pl6_9 py7_9 pl7_9 py8_9 pl8_9 py9_9 pl9_9 py10_9 pl10_9 pc1_9 pd1_9 pc2_9 pd2_9 pc3_9 pd3_9 pc4_9 pd4_9 oa9 oq9 ra9 rq9 pu9 pv9 pw9 pz9 pp9
 refine hK10 _ _ ?_
 refine gm ?_
 refine gv (qt_extract rfl rfl rfl) ?_
 refine gv (qt_extract rfl rfl rfl) ?_
 refine gop fun K12 hK12 => ?_
 refine go_alloc (z := (.agg #[.int .i64 0, .slice none 0 0, .slice none 0 0, .slice none 0 0, .slice none 0 0, .int .i64 0, .slice none 0 0, .slice none 0 0, .slice none 0 0, .slice none 0 0, .slice none 0 0, .slice none 0 0, .int .i64 0, .slice none 0 0, .slice none 0 0, .slice none 0 0, .slice none 0 0, .int .i64 0, .slice none 0 0, .slice none 0 0, .slice none 0 0, .slice none 0 0, .slice none 0 0, .slice none 0 0, .int .i64 0, .slice none 0 0, .slice none 0 0, .slice none 0 0, .slice none 0 0, .slice none 0 0, .slice none 0 0])) (cs := [.int .i64 0, .slice none 0 0, .slice none 0 0, .slice none 0 0, .slice none 0 0, .int .i64 0, .slice none 0 0, .slice none 0 0, .slice none 0 0, .slice none 0 0, .slice none 0 0, .slice none 0 0, .int .i64 0, .slice none 0 0, .slice none 0 0, .slice none 0 0, .slice none 0 0, .int .i64 0, .slice none 0 0, .slice none 0 0, .slice none 0 0, .slice none 0 0, .slice none 0 0, .slice none 0 0, .int .i64 0, .slice none 0 0, .slice none 0 0, .slice none 0 0, .slice none 0 0, .slice none 0 0, .slice none 0 0]) rfl rfl rfl (fun w => by kernel_rfl) rfl ?_
 intro B11
 refine hK12 _ _ ?_
 refine gop fun K13 hK13 => ?_
 refine go_storeS (n := 29) rfl rfl rfl rfl (by kernel_rfl) rfl rfl rfl ?_
 refine hK13 _ _ ?_
 refine gas ?_
 refine gnt (hK8 _ _ ?_)
 refine gc_sr fun K14 hK14 => ?_
 refine gv (qtf Tryz.underlying62 (z := 0) (off := 29)) ?_
 refine gv (qtl Tryz.underlying59 (n := 29)) ?_
 refine gop fun K16 hK16 => ?_
 refine go_callL rfl rfl rfl Tryz.func43 rfl (by decide) rfl (fun w M => each_o w _ _ _ _ (fun x => x.2.1) (cmO_len F G) (mem_ownE0 (n := 23) M rfl) (fun w x => callsV_f (bnd := []) (vs := [_]) (caps := []) Tryz.func50 rfl (by decide) (rpO_any w x))) ?_
 intro va15 vc15
 refine hK16 _ _ ?_
 refine gas ?_
 refine gnt (hK14 _ _ ?_)
 refine gc_seq fun K17 hK17 => ?_
 try simp only [sL]
 refine ga_start _ (fun w M => mem_erase 2 (M)) ?_
 refine gav 0 rfl (qtf Tryz.underlying62 (z := 4) (off := 24)) ?_
 refine gav 1 rfl (qt_loadP (n := 28) (z := 5) rfl rfl Tryz.underlying29 rfl (by kernel_rfl) rfl (by first | decide | exact Nat.le_refl _ | simp)) ?_
 refine gav 2 rfl (qtf Tryz.underlying62 (z := 23) (off := 0)) ?_
 refine gav 3 rfl (qtf Tryz.underlying58 (z := 11) (off := 12)) ?_
 refine gav 4 rfl (qtf Tryz.underlying31 (z := 4) (off := 0)) ?_
 refine gav 5 rfl (qt_loadP (n := 28) (z := 5) rfl rfl Tryz.underlying29 rfl (by kernel_rfl) rfl (by first | decide | exact Nat.le_refl _ | simp)) ?_
 refine gav 6 rfl (qt_move rfl rfl) ?_
 refine gav 7 rfl (qtf Tryz.underlying62 (z := 0) (off := 30)) ?_
 refine gav 8 rfl (qtl Tryz.underlying60 (n := 28)) ?_
 refine gav 11 rfl (qt_move rfl rfl) ?_
 refine gao 9 fun K19 hK19 => ?_
 refine go_callL rfl rfl rfl Tryz.func45 rfl (by decide) rfl (fun w M => each_a w _ _ _ _ (fun x => x.2.2.2) (cmA_len F G) (mem_ownE0 (n := 28) M rfl) (fun w x => callsV_f (bnd := []) (vs := [_]) (caps := []) Tryz.func51 rfl (by decide) (rpA_any w x))) ?_
 intro va18 vc18
 refine hK19 _ _ (fun w M => (mem_erase 2 (mem_take 31 M) :)) ?_
 refine gav 10 rfl (qt_build rfl rfl bt_Functor) ?_
 refine gao 12 fun K20 hK20 => ?_
 refine go_storeS (n := 2) rfl rfl rfl rfl (by kernel_rfl) rfl rfl rfl ?_
 refine hK20 _ _ (fun w M => (mem_erase 2 (mem_take 31 M) :)) ?_
 refine gav 13 rfl (qt_assign rfl rfl) ?_
 refine ga_done (by kernel_rfl) ?_
 refine gk_then (hK17 _ _ ?_)
 refine gc_ret ?_
 refine ret_SI (n := 2) rfl rfl rfl Tryz.underlying31 rfl (by kernel_rfl) rfl (fun w M => ?_)
 try simp only [sL] at M
 exact retFI_star (F := ⟨cmC F G, (cmG F G).S, (cmO F G).map (fun x => x.2.1), (cmA F G).map (fun x => x.2.2.2)⟩) (mem_block 26 4 (mem_block 15 4 (mem_block 30 2 (M))))
set_option maxHeartbeats 8000000 in
set_option maxRecDepth 100000 in
theorem spec_CommaLeft (w : World) (v : Value) (F : Fct) (u : Value) (G : Fct) (h : RdF w v F) (e : RdF w u G) :
  Calls Tryz.prog 12 #[v, u] w (RetFI w (fCommaLeft F G).1 (fCommaLeft F G).2) := by
 have h0 := h
 obtain ⟨vx1, vx2, vx3, vx4, vx5, vx6, vx7, vx8, vx9, vx10, vk1, vk2, vk3, vk4, vk5, vk6, vk7, vk8, vk9, vk10, rfl, h1, h2, h3, h4, h5, h6, h7, h8, h9, h10⟩ := h.lists
 have e0 := e
 obtain ⟨ux1, ux2, ux3, ux4, ux5, ux6, ux7, ux8, ux9, ux10, uk1, uk2, uk3, uk4, uk5, uk6, uk7, uk8, uk9, uk10, rfl, e1, e2, e3, e4, e5, e6, e7, e8, e9, e10⟩ := e.lists
 go_enter Tryz.func12, Tryz.ntmps12
 refine gc_enter (N := 30) rfl (look_cons (k := 0) rfl (look_cons (k := 1) rfl (look_nil _))) ?_
 refine gc_sr fun K1 hK1 => ?_
 refine gop fun K3 hK3 => ?_
 refine go_box rfl rfl rfl rfl rfl ?_
 intro B2
 refine hK3 _ _ ?_
 refine gop fun K5 hK5 => ?_
 refine go_box rfl rfl rfl rfl rfl ?_
 intro B4
 refine hK5 _ _ ?_
 refine gop fun K7 hK7 => ?_
 refine go_alloc (z := (.agg #[.int .i64 0, .slice none 0 0, .slice none 0 0, .slice none 0 0, .slice none 0 0, .int .i64 0, .slice none 0 0, .slice none 0 0, .slice none 0 0, .slice none 0 0, .slice none 0 0, .slice none 0 0])) (cs := [.int .i64 0, .slice none 0 0, .slice none 0 0, .slice none 0 0, .slice none 0 0, .int .i64 0, .slice none 0 0, .slice none 0 0, .slice none 0 0, .slice none 0 0, .slice none 0 0, .slice none 0 0]) rfl rfl rfl (fun w => by kernel_rfl) rfl ?_
 intro B6
 refine hK7 _ _ ?_
 refine gas ?_
 refine gnt (hK1 _ _ ?_)
 refine gc_sr fun K8 hK8 => ?_
 refine gv (qts Tryz.underlying31 (n := 0)) ?_
 refine gv (qts Tryz.underlying31 (n := 1)) ?_
 refine gop fun K10 hK10 => ?_
 refine go_callCRRI rfl rfl rfl Tryz.func38 rfl (by decide) rfl (fun w M => specCode_any w _ _ _ _ (mem_rdF M h0) (mem_rdF M e0)) ?_
 intro cz1_9 cm1_9 cz2_9 cm2_9 cz3_9 cm3_9 cz4_9 cm4_9 qa9 qb9 qc9 qd9 cu9 cv9 cw9
 refine hK10 _ _ ?_
 refine gm ?_
 refine gv (qt_extract rfl rfl rfl) ?_
 refine gv (qt_extract rfl rfl rfl) ?_
 refine gv (qt_extract rfl rfl rfl) ?_
 refine gv (qt_extract rfl rfl rfl) ?_
 refine gop fun K12 hK12 => ?_
 refine go_alloc (z := (.agg #[.int .i64 0, .slice none 0 0, .slice none 0 0, .slice none 0 0, .slice none 0 0])) (cs := [.int .i64 0, .slice none 0 0, .slice none 0 0, .slice none 0 0, .slice none 0 0]) rfl rfl rfl (fun w => by kernel_rfl) rfl ?_
 intro B11
 refine hK12 _ _ ?_
 refine gop fun K13 hK13 => ?_
 refine go_storeS (n := 9) rfl rfl rfl rfl (by kernel_rfl) rfl rfl rfl ?_
 refine hK13 _ _ ?_
 refine gas ?_
 refine gas ?_
 refine gas ?_
 refine gnt (hK8 _ _ ?_)
 refine gc_seq fun K14 hK14 => ?_
 refine gc_sr fun K15 hK15 => ?_
 refine gm ?_
 refine gv (qt_neq rfl rfl rfl) ?_
 refine gnt (hK15 _ _ ?_)
 refine gc_cond rfl (fun hc0 => ?_) (fun hc0 => ?_)
 ·try simp only [sA] at hc0
  refine gc_sr fun K16 hK16 => ?_
  refine gv (qt_build rfl rfl bt0_Functor) ?_
  refine gm ?_
  refine gop fun K17 hK17 => ?_
  refine go_storeS (n := 2) rfl rfl rfl rfl (by kernel_rfl) rfl rfl rfl ?_
  refine hK17 _ _ ?_
  refine gas ?_
  refine gnt (hK16 _ _ ?_)
  refine gc_ret ?_
  refine gk_then_ret ?_
  refine ret_SI (n := 2) rfl rfl rfl Tryz.underlying31 rfl (by kernel_rfl) rfl (fun w M => ?_)
  rw [(cml_n hc0).1]; exact retFI_zero M.1
 ·try simp only [sA] at hc0
  refine gc_skip ?_
  refine gk_then (hK14 _ _ ?_)
  refine gc_seq fun K18 hK18 => ?_
  try simp only [sL]
  refine ga_start _ (fun w M => mem_erase 2 (M)) ?_
  refine gav 0 rfl (qts Tryz.underlying29 (n := 8)) ?_
  refine gav 1 rfl (qtf Tryz.underlying31 (z := 4) (off := 0)) ?_
  refine gav 2 rfl (qt_loadP (n := 0) (z := 5) rfl rfl Tryz.underlying29 rfl (by kernel_rfl) rfl (by first | decide | exact Nat.le_refl _ | simp)) ?_
  refine gav 3 rfl (qt_move rfl rfl) ?_
  refine gav 5 rfl (qt_move rfl rfl) ?_
  refine gao 4 fun K20 hK20 => ?_
  refine go_callL rfl rfl rfl Tryz.func40 rfl (by decide) rfl (fun w M => specCol_any w _ ((cmO F G).map row3) (0) (mem_rdU (n := 7) M rfl) (by decide) (cm_r3 (by decide))) ?_
  intro va19 vc19
  refine hK20 _ _ (fun w M => (mem_erase 2 (mem_take 10 M) :)) ?_
  refine gao 6 fun K22 hK22 => ?_
  refine go_callL rfl rfl rfl Tryz.func40 rfl (by decide) rfl (fun w M => specCol_any w _ ((cmA F G).map row4) (2) (mem_rdU (n := 8) M rfl) (by decide) (cm_r4 (by decide))) ?_
  intro va21 vc21
  refine hK22 _ _ (fun w M => (mem_erase 2 (mem_take 10 M) :)) ?_
  refine gao 7 fun K24 hK24 => ?_
  refine go_callFn rfl rfl rfl Tryz.func39 rfl (by decide) rfl (fun w M => specMakeF_any w _ _ (rdC_mk ((mem_own1 (n := 3) M rfl).rd) ((mem_own1 (n := 4) M rfl).rd) ((mem_own1 (n := 5) M rfl).rd) (mem_rdU (n := 6) M rfl)) _ _ (rdC_mk (mem_rd M h1) (mem_rd M h2) (mem_rd M h3) (mem_rd2 M h4)) _ _ _ _ ((mem_own1 (n := 10) M rfl).rd) ((mem_own1 (n := 11) M rfl).rd)) ?_
  intro fx1_23 fk1_23 fx2_23 fk2_23 fx3_23 fk3_23 fx4_23 fk4_23 fx5_23 fk5_23 fx6_23 fk6_23 fx7_23 fk7_23 fx8_23 fk8_23 fx9_23 fk9_23 fx10_23 fk10_23 us23 ut23
  refine hK24 _ _ (fun w M => (mem_erase 2 (mem_take 10 M) :)) ?_
  refine gao 8 fun K25 hK25 => ?_
  refine go_storeS (n := 2) rfl rfl rfl rfl (by kernel_rfl) rfl rfl rfl ?_
  refine hK25 _ _ (fun w M => (mem_erase 2 (mem_take 10 M) :)) ?_
  refine gav 9 rfl (qt_assign rfl rfl) ?_
  refine ga_done (by kernel_rfl) ?_
  refine gk_then (hK18 _ _ ?_)
  refine gc_ret ?_
  refine ret_SI (n := 2) rfl rfl rfl Tryz.underlying31 rfl (by kernel_rfl) rfl (fun w M => ?_)
  try simp only [sL] at M
  have hx := cmx_t hc0
  have hz : fCommaLeft F G = (⟨cmC F G, F.S, (cmO F G).map (fun x => x.1), (cmA F G).map (fun x => x.2.2.1)⟩, 0) := by unfold fCommaLeft; rw [hx.1, hc0]
  rw [hz, ← (col_map3 _).1, ← (col_map4 _).1]; exact retFI_star (F := (⟨cmC F G, F.S, colR ((cmO F G).map row3) 0, colR ((cmA F G).map row4) 2⟩ : Fct)) (mem_block 12 10 (M))
set_option maxHeartbeats 8000000 in
set_option maxRecDepth 100000 in
theorem spec_CommaRight (w : World) (v : Value) (F : Fct) (u : Value) (G : Fct) (h : RdF w v F) (e : RdF w u G) :
  Calls Tryz.prog 18 #[v, u] w (RetFI w (fCommaRight F G).1 (fCommaRight F G).2) := by
 have h0 := h
 obtain ⟨vx1, vx2, vx3, vx4, vx5, vx6, vx7, vx8, vx9, vx10, vk1, vk2, vk3, vk4, vk5, vk6, vk7, vk8, vk9, vk10, rfl, h1, h2, h3, h4, h5, h6, h7, h8, h9, h10⟩ := h.lists
 have e0 := e
 obtain ⟨ux1, ux2, ux3, ux4, ux5, ux6, ux7, ux8, ux9, ux10, uk1, uk2, uk3, uk4, uk5, uk6, uk7, uk8, uk9, uk10, rfl, e1, e2, e3, e4, e5, e6, e7, e8, e9, e10⟩ := e.lists
 go_enter Tryz.func18, Tryz.ntmps18
 refine gc_enter (N := 30) rfl (look_cons (k := 0) rfl (look_cons (k := 1) rfl (look_nil _))) ?_
 refine gc_sr fun K1 hK1 => ?_
 refine gop fun K3 hK3 => ?_
 refine go_box rfl rfl rfl rfl rfl ?_
 intro B2
 refine hK3 _ _ ?_
 refine gop fun K5 hK5 => ?_
 refine go_box rfl rfl rfl rfl rfl ?_
 intro B4
 refine hK5 _ _ ?_
 refine gop fun K7 hK7 => ?_
 refine go_alloc (z := (.agg #[.int .i64 0, .slice none 0 0, .slice none 0 0, .slice none 0 0, .slice none 0 0, .int .i64 0, .slice none 0 0, .slice none 0 0, .slice none 0 0, .slice none 0 0, .slice none 0 0, .slice none 0 0])) (cs := [.int .i64 0, .slice none 0 0, .slice none 0 0, .slice none 0 0, .slice none 0 0, .int .i64 0, .slice none 0 0, .slice none 0 0, .slice none 0 0, .slice none 0 0, .slice none 0 0, .slice none 0 0]) rfl rfl rfl (fun w => by kernel_rfl) rfl ?_
 intro B6
 refine hK7 _ _ ?_
 refine gas ?_
 refine gnt (hK1 _ _ ?_)
 refine gc_sr fun K8 hK8 => ?_
 refine gv (qts Tryz.underlying31 (n := 0)) ?_
 refine gv (qts Tryz.underlying31 (n := 1)) ?_
 refine gop fun K10 hK10 => ?_
 refine go_callCRRI rfl rfl rfl Tryz.func38 rfl (by decide) rfl (fun w M => specCode_any w _ _ _ _ (mem_rdF M h0) (mem_rdF M e0)) ?_
 intro cz1_9 cm1_9 cz2_9 cm2_9 cz3_9 cm3_9 cz4_9 cm4_9 qa9 qb9 qc9 qd9 cu9 cv9 cw9
 refine hK10 _ _ ?_
 refine gm ?_
 refine gv (qt_extract rfl rfl rfl) ?_
 refine gv (qt_extract rfl rfl rfl) ?_
 refine gv (qt_extract rfl rfl rfl) ?_
 refine gv (qt_extract rfl rfl rfl) ?_
 refine gop fun K12 hK12 => ?_
 refine go_alloc (z := (.agg #[.int .i64 0, .slice none 0 0, .slice none 0 0, .slice none 0 0, .slice none 0 0])) (cs := [.int .i64 0, .slice none 0 0, .slice none 0 0, .slice none 0 0, .slice none 0 0]) rfl rfl rfl (fun w => by kernel_rfl) rfl ?_
 intro B11
 refine hK12 _ _ ?_
 refine gop fun K13 hK13 => ?_
 refine go_storeS (n := 9) rfl rfl rfl rfl (by kernel_rfl) rfl rfl rfl ?_
 refine hK13 _ _ ?_
 refine gas ?_
 refine gas ?_
 refine gas ?_
 refine gnt (hK8 _ _ ?_)
 refine gc_seq fun K14 hK14 => ?_
 refine gc_sr fun K15 hK15 => ?_
 refine gm ?_
 refine gv (qt_neq rfl rfl rfl) ?_
 refine gnt (hK15 _ _ ?_)
 refine gc_cond rfl (fun hc0 => ?_) (fun hc0 => ?_)
 ·try simp only [sA] at hc0
  refine gc_sr fun K16 hK16 => ?_
  refine gv (qt_build rfl rfl bt0_Functor) ?_
  refine gm ?_
  refine gop fun K17 hK17 => ?_
  refine go_storeS (n := 2) rfl rfl rfl rfl (by kernel_rfl) rfl rfl rfl ?_
  refine hK17 _ _ ?_
  refine gas ?_
  refine gnt (hK16 _ _ ?_)
  refine gc_ret ?_
  refine gk_then_ret ?_
  refine ret_SI (n := 2) rfl rfl rfl Tryz.underlying31 rfl (by kernel_rfl) rfl (fun w M => ?_)
  rw [(cml_n hc0).2]; exact retFI_zero M.1
 ·try simp only [sA] at hc0
  refine gc_skip ?_
  refine gk_then (hK14 _ _ ?_)
  refine gc_seq fun K18 hK18 => ?_
  try simp only [sL]
  refine ga_start _ (fun w M => mem_erase 2 (M)) ?_
  refine gav 0 rfl (qts Tryz.underlying29 (n := 8)) ?_
  refine gav 1 rfl (qtf Tryz.underlying31 (z := 4) (off := 0)) ?_
  refine gav 2 rfl (qt_loadP (n := 1) (z := 5) rfl rfl Tryz.underlying29 rfl (by kernel_rfl) rfl (by first | decide | exact Nat.le_refl _ | simp)) ?_
  refine gav 3 rfl (qt_move rfl rfl) ?_
  refine gav 5 rfl (qt_move rfl rfl) ?_
  refine gao 4 fun K20 hK20 => ?_
  refine go_callL rfl rfl rfl Tryz.func40 rfl (by decide) rfl (fun w M => specCol_any w _ ((cmO F G).map row3) (1) (mem_rdU (n := 7) M rfl) (by decide) (cm_r3 (by decide))) ?_
  intro va19 vc19
  refine hK20 _ _ (fun w M => (mem_erase 2 (mem_take 10 M) :)) ?_
  refine gao 6 fun K22 hK22 => ?_
  refine go_callL rfl rfl rfl Tryz.func40 rfl (by decide) rfl (fun w M => specCol_any w _ ((cmA F G).map row4) (3) (mem_rdU (n := 8) M rfl) (by decide) (cm_r4 (by decide))) ?_
  intro va21 vc21
  refine hK22 _ _ (fun w M => (mem_erase 2 (mem_take 10 M) :)) ?_
  refine gao 7 fun K24 hK24 => ?_
  refine go_callFn rfl rfl rfl Tryz.func39 rfl (by decide) rfl (fun w M => specMakeF_any w _ _ (rdC_mk ((mem_own1 (n := 3) M rfl).rd) ((mem_own1 (n := 4) M rfl).rd) ((mem_own1 (n := 5) M rfl).rd) (mem_rdU (n := 6) M rfl)) _ _ (rdC_mk (mem_rd M e1) (mem_rd M e2) (mem_rd M e3) (mem_rd2 M e4)) _ _ _ _ ((mem_own1 (n := 10) M rfl).rd) ((mem_own1 (n := 11) M rfl).rd)) ?_
  intro fx1_23 fk1_23 fx2_23 fk2_23 fx3_23 fk3_23 fx4_23 fk4_23 fx5_23 fk5_23 fx6_23 fk6_23 fx7_23 fk7_23 fx8_23 fk8_23 fx9_23 fk9_23 fx10_23 fk10_23 us23 ut23
  refine hK24 _ _ (fun w M => (mem_erase 2 (mem_take 10 M) :)) ?_
  refine gao 8 fun K25 hK25 => ?_
  refine go_storeS (n := 2) rfl rfl rfl rfl (by kernel_rfl) rfl rfl rfl ?_
  refine hK25 _ _ (fun w M => (mem_erase 2 (mem_take 10 M) :)) ?_
  refine gav 9 rfl (qt_assign rfl rfl) ?_
  refine ga_done (by kernel_rfl) ?_
  refine gk_then (hK18 _ _ ?_)
  refine gc_ret ?_
  refine ret_SI (n := 2) rfl rfl rfl Tryz.underlying31 rfl (by kernel_rfl) rfl (fun w M => ?_)
  try simp only [sL] at M
  have hx := cmx_t hc0
  have hz : fCommaRight F G = (⟨cmC F G, G.S, (cmO F G).map (fun x => x.2.1), (cmA F G).map (fun x => x.2.2.2)⟩, 0) := by unfold fCommaRight; rw [hx.2.1, hc0]
  rw [hz, ← (col_map3 _).2, ← (col_map4 _).2]; exact retFI_star (F := (⟨cmC F G, G.S, colR ((cmO F G).map row3) 1, colR ((cmA F G).map row4) 3⟩ : Fct)) (mem_block 12 10 (M))
end Go.Proofs.YtpcabkdkdnchaaaGreat
set_option linter.unusedSimpArgs false
set_option linter.unusedVariables false
set_option linter.unusedSectionVars false
namespace Go.Proofs.YtpcabkdkdnchaaaGreat
open Go.RowKit
noncomputable def fIdentityFunctor (c : Cat) : Fct × Int := if fIsCategory c = true then (selfF c, 0) else (fct0, 1)
theorem idf_t {c : Cat} (h : fIsCategory c = true) : fIdentityFunctor c = (selfF c, 0) := if_pos h
theorem idf_f {c : Cat} (h : ¬ fIsCategory c = true) : fIdentityFunctor c = (fct0, 1) := if_neg h
set_option maxHeartbeats 1000000 in
set_option maxRecDepth 100000 in
theorem specSelf_any (w : World) (v : Value) (c : Cat) (h : RdC w v c) (hS : ShapeP c) :
    Calls Tryz.prog 55 #[v] w (RetFn w (selfF c)) := by
  have h0 := h
  obtain ⟨va, vb, vc, vd, ve, vf, vg, vh, rfl, h1, h2, h3, h4, _⟩ := h.lists
  have hob0 := hS.ob0; have hob8 := hS.ob8; have hn40 := hS.n40
  go_enter Tryz.func55, Tryz.ntmps55
  refine gc_enter (N := 35) rfl (look_cons (k := 0) rfl (look_nil _)) ?_
  refine gc_seq fun K1 hK1 => ?_
  refine gc_region ?_
  refine g_op (.free rfl) fun K3 hK3 => ?_
  refine go_box rfl rfl rfl rfl rfl ?_
  intro B2
  refine hK3 _ _ ?_
  refine g_op (.free rfl) fun K5 hK5 => ?_
  refine go_alloc (z := (.agg #[.int .i64 0, .slice none 0 0, .slice none 0 0, .slice none 0 0, .slice none 0 0, .int .i64 0, .slice none 0 0, .slice none 0 0, .slice none 0 0, .slice none 0 0, .slice none 0 0, .slice none 0 0])) (cs := [.int .i64 0, .slice none 0 0, .slice none 0 0, .slice none 0 0, .slice none 0 0, .int .i64 0, .slice none 0 0, .slice none 0 0, .slice none 0 0, .slice none 0 0, .slice none 0 0, .slice none 0 0]) rfl rfl rfl (fun w => by kernel_rfl) rfl ?_
  intro B4
  refine hK5 _ _ ?_
  refine g_nil ?_
  refine gk_then (hK1 _ _ ?_)
  refine gc_seq fun K6 hK6 => ?_
  refine gc_region ?_
  refine g_op (.free rfl) fun K8 hK8 => ?_
  refine go_slice0 rfl rfl rfl Tryz.underlying22 ?_
  intro B7
  refine hK8 _ _ ?_
  refine g_op (.free rfl) fun K10 hK10 => ?_
  refine go_slice0 rfl rfl rfl Tryz.underlying22 ?_
  intro B9
  refine hK10 _ _ ?_
  refine g_v (.free rfl) rfl rfl (qt_assign rfl rfl) ?_
  refine g_v (.free rfl) rfl rfl (qt_assign rfl rfl) ?_
  refine g_nil ?_
  refine gk_then (hK6 _ _ ?_)
  refine gc_seq fun K11 hK11 => ?_
  refine gc_seq fun K12 hK12 => ?_
  refine gc_region ?_
  refine g_v (.free rfl) rfl rfl (qt_assign rfl rfl) ?_
  refine g_nil ?_
  refine gk_then (hK12 _ _ ?_)
  refine gc_block ?_
  try simp only [List.nil_append, List.cons_append, List.append_assoc, List.set_cons_succ, List.set_cons_zero]
  refine gc_loop ([(0, _), (1, _), (2, _), (4, _)] : Env) (fun s : Nat × (Option Addr) × Nat => (fun (k : Nat) (a : Option Addr) (q : Nat) => ([(3, .slice a (numL k).length q), (5, .int .i64 (k : Int))] : Env)) s.1 s.2.1 s.2.2) (fun s : Nat × (Option Addr) × Nat => (fun (k : Nat) (a : Option Addr) (q : Nat) => ([(2, own1I (.slice a (numL k).length q) (numL k))] : List (Nat × Itm))) s.1 s.2.1 s.2.2) (fun s : Nat × (Option Addr) × Nat => (fun (k : Nat) (a : Option Addr) (q : Nat) => k ≤ c.ob.toNat) s.1 s.2.1 s.2.2) (fun s : Nat × (Option Addr) × Nat => (fun (k : Nat) (a : Option Addr) (q : Nat) => c.ob.toNat - k) s.1 s.2.1 s.2.2) (0, _, _) (sub_cons rfl (sub_cons rfl (sub_cons rfl (sub_cons rfl (sub_cons rfl (sub_cons rfl sub_nil)))))) rfl (Nat.zero_le _) ?_
  rintro ⟨k, a, q⟩ hinv KL13 hKL13
  simp only [updL, List.foldl_cons, List.foldl_nil, List.set_cons_succ, List.set_cons_zero, List.cons_append, List.nil_append] at hinv hKL13 ⊢
  have hk := hinv
  have hl := numL_len k
  refine gc_seq fun K14 hK14 => ?_
  refine gc_seq fun K15 hK15 => ?_
  refine gc_region ?_
  refine g_v (.free rfl) rfl rfl (qt_move rfl rfl) ?_
  refine g_v (.free rfl) rfl rfl (qt_field (z := 0) (off := 0) rfl rfl Tryz.underlying29 rfl (by kernel_rfl) rfl) ?_
  refine g_v (.free rfl) rfl rfl (qt_loadB (n := 0) rfl rfl Tryz.underlying2 rfl rfl rfl) ?_
  refine g_v (.free rfl) rfl rfl (qt_lss rfl rfl rfl) ?_
  refine g_nil ?_
  refine gk_then (hK15 _ _ ?_)
  refine gc_cond rfl (fun hc0 => ?_) (fun hc0 => ?_)
  · try simp only [decide_eq_true_eq, decide_eq_false_iff_not, Bool.not_eq_true', Bool.not_eq_false', Bool.not_eq_eq_eq_not, Bool.not_true, Bool.not_false, ne_eq, Decidable.not_not, Classical.not_not] at hc0
    refine gc_skip ?_
    refine gk_then (hK14 _ _ ?_)
    refine gc_seq fun K16 hK16 => ?_
    refine gc_block ?_
    refine gc_region ?_
    refine g_v (.free rfl) rfl rfl (qt_move rfl rfl) ?_
    refine g_v (.free rfl) rfl rfl (qt_move rfl rfl) ?_
    refine g_op (.free rfl) fun K18 hK18 => ?_
    refine go_slice1 rfl rfl rfl rfl Tryz.underlying22 ?_
    intro B17
    refine hK18 _ _ ?_
    refine g_op (.free rfl) fun K20 hK20 => ?_
    refine go_append (n := 2) (m := 4) rfl rfl rfl Tryz.underlying22 rfl rfl rfl rfl (by omega) ?_
    intro va19 vc19
    refine hK20 _ _ ?_
    refine g_v (.free rfl) rfl rfl (qt_assign rfl rfl) ?_
    refine g_nil ?_
    refine gk_block ?_
    refine gk_then (hK16 _ _ ?_)
    refine gc_region ?_
    refine g_v (.free rfl) rfl rfl (qt_move rfl rfl) ?_
    refine g_v (.free rfl) rfl rfl (qt_add rfl rfl rfl (by omega)) ?_
    refine g_v (.free rfl) rfl rfl (qt_assign rfl rfl) ?_
    refine g_nil ?_
    simp only [numL_succ]
    refine gk_then (gk_take 4 ?_)
    refine gk_sub ?hs_21 (hKL13 (k + 1, _, _) ?hi_21 ?hm_21)
    case hs_21 => exact (sub_cons rfl (sub_cons rfl (sub_cons rfl (sub_cons rfl (sub_cons rfl (sub_cons rfl sub_nil))))))
    case hi_21 => omega
    case hm_21 => omega
  · try simp only [decide_eq_true_eq, decide_eq_false_iff_not, Bool.not_eq_true', Bool.not_eq_false', Bool.not_eq_eq_eq_not, Bool.not_true, Bool.not_false, ne_eq, Decidable.not_not, Classical.not_not] at hc0
    refine gc_exit ?_
    refine gk_then_exit ?_
    refine gk_then_exit ?_
    refine gk_block_hit ?_
    refine gk_then (hK11 _ _ ?_)
    refine gc_seq fun K22 hK22 => ?_
    refine gc_seq fun K23 hK23 => ?_
    obtain rfl : k = c.ob.toNat := by omega
    refine gc_region ?_
    refine g_v (.free rfl) rfl rfl (qt_assign rfl rfl) ?_
    refine g_nil ?_
    refine gk_then (hK23 _ _ ?_)
    refine gc_block ?_
    try simp only [List.nil_append, List.cons_append, List.append_assoc, List.set_cons_succ, List.set_cons_zero]
    refine gc_loop ([(0, _), (1, _), (2, _), (3, _), (5, _), (12, _)] : Env) (fun s : Nat × (Option Addr) × Nat => (fun (k : Nat) (a : Option Addr) (q : Nat) => ([(4, .slice a (numL k).length q), (6, .int .i64 (k : Int))] : Env)) s.1 s.2.1 s.2.2) (fun s : Nat × (Option Addr) × Nat => (fun (k : Nat) (a : Option Addr) (q : Nat) => ([(3, own1I (.slice a (numL k).length q) (numL k))] : List (Nat × Itm))) s.1 s.2.1 s.2.2) (fun s : Nat × (Option Addr) × Nat => (fun (k : Nat) (a : Option Addr) (q : Nat) => k ≤ c.s.length) s.1 s.2.1 s.2.2) (fun s : Nat × (Option Addr) × Nat => (fun (k : Nat) (a : Option Addr) (q : Nat) => c.s.length - k) s.1 s.2.1 s.2.2) (0, _, _) (sub_cons rfl (sub_cons rfl (sub_cons rfl (sub_cons rfl (sub_cons rfl (sub_cons rfl (sub_cons rfl (sub_cons rfl sub_nil)))))))) rfl (Nat.zero_le _) ?_
    rintro ⟨k, a, q⟩ hinv KL24 hKL24
    simp only [updL, List.foldl_cons, List.foldl_nil, List.set_cons_succ, List.set_cons_zero, List.cons_append, List.nil_append] at hinv hKL24 ⊢
    have hk := hinv
    have hl := numL_len k
    refine gc_seq fun K25 hK25 => ?_
    refine gc_seq fun K26 hK26 => ?_
    refine gc_region ?_
    refine g_v (.free rfl) rfl rfl (qt_move rfl rfl) ?_
    refine g_v (.free rfl) rfl rfl (qt_field (z := 0) (off := 1) rfl rfl Tryz.underlying29 rfl (by kernel_rfl) rfl) ?_
    refine g_v (.free rfl) rfl rfl (qt_loadB (n := 0) rfl rfl Tryz.underlying22 rfl rfl rfl) ?_
    refine g_v (.free rfl) rfl rfl (qt_len rfl rfl ulE1 (fun w M => lenV_rd h1)) ?_
    refine g_v (.free rfl) rfl rfl (qt_lss rfl rfl rfl) ?_
    refine g_nil ?_
    refine gk_then (hK26 _ _ ?_)
    refine gc_cond rfl (fun hc1 => ?_) (fun hc1 => ?_)
    · try simp only [decide_eq_true_eq, decide_eq_false_iff_not, Bool.not_eq_true', Bool.not_eq_false', Bool.not_eq_eq_eq_not, Bool.not_true, Bool.not_false, ne_eq, Decidable.not_not, Classical.not_not] at hc1
      refine gc_skip ?_
      refine gk_then (hK25 _ _ ?_)
      refine gc_seq fun K27 hK27 => ?_
      refine gc_block ?_
      refine gc_region ?_
      refine g_v (.free rfl) rfl rfl (qt_move rfl rfl) ?_
      refine g_v (.free rfl) rfl rfl (qt_move rfl rfl) ?_
      refine g_op (.free rfl) fun K29 hK29 => ?_
      refine go_slice1 rfl rfl rfl rfl Tryz.underlying22 ?_
      intro B28
      refine hK29 _ _ ?_
      refine g_op (.free rfl) fun K31 hK31 => ?_
      refine go_append (n := 3) (m := 4) rfl rfl rfl Tryz.underlying22 rfl rfl rfl rfl (by omega) ?_
      intro va30 vc30
      refine hK31 _ _ ?_
      refine g_v (.free rfl) rfl rfl (qt_assign rfl rfl) ?_
      refine g_nil ?_
      refine gk_block ?_
      refine gk_then (hK27 _ _ ?_)
      refine gc_region ?_
      refine g_v (.free rfl) rfl rfl (qt_move rfl rfl) ?_
      refine g_v (.free rfl) rfl rfl (qt_add rfl rfl rfl (by omega)) ?_
      refine g_v (.free rfl) rfl rfl (qt_assign rfl rfl) ?_
      refine g_nil ?_
      simp only [numL_succ]
      refine gk_then (gk_take 4 ?_)
      refine gk_sub ?hs_32 (hKL24 (k + 1, _, _) ?hi_32 ?hm_32)
      case hs_32 => exact (sub_cons rfl (sub_cons rfl (sub_cons rfl (sub_cons rfl (sub_cons rfl (sub_cons rfl (sub_cons rfl (sub_cons rfl sub_nil))))))))
      case hi_32 => omega
      case hm_32 => omega
    · try simp only [decide_eq_true_eq, decide_eq_false_iff_not, Bool.not_eq_true', Bool.not_eq_false', Bool.not_eq_eq_eq_not, Bool.not_true, Bool.not_false, ne_eq, Decidable.not_not, Classical.not_not] at hc1
      refine gc_exit ?_
      refine gk_then_exit ?_
      refine gk_then_exit ?_
      refine gk_block_hit ?_
      refine gk_then (hK22 _ _ ?_)
      refine gc_seq fun K33 hK33 => ?_
      obtain rfl : k = c.s.length := by omega
      refine gc_region ?_
      refine g_v (.free rfl) rfl rfl (qt_loadS (n := 0) rfl rfl Tryz.underlying29 rfl (by kernel_rfl) rfl) ?_
      refine g_v (.free rfl) rfl rfl (qt_loadS (n := 0) rfl rfl Tryz.underlying29 rfl (by kernel_rfl) rfl) ?_
      refine g_v (.free rfl) rfl rfl (qt_move rfl rfl) ?_
      refine g_v (.free rfl) rfl rfl (qt_move rfl rfl) ?_
      refine g_op (.free rfl) fun K35 hK35 => ?_
      refine go_callFn rfl rfl rfl Tryz.func39 rfl (by decide) rfl (fun w M => specMakeF_any w _ _ (mem_rdC M h0) _ _ (mem_rdC M h0) _ _ _ _ ((mem_own1 (n := 2) M rfl).rd) ((mem_own1 (n := 3) M rfl).rd)) ?_
      intro fx1_34 fk1_34 fx2_34 fk2_34 fx3_34 fk3_34 fx4_34 fk4_34 fx5_34 fk5_34 fx6_34 fk6_34 fx7_34 fk7_34 fx8_34 fk8_34 fx9_34 fk9_34 fx10_34 fk10_34 us34 ut34
      refine hK35 _ _ ?_
      refine g_op (.free rfl) fun K36 hK36 => ?_
      refine go_storeS (n := 1) rfl rfl rfl rfl (by kernel_rfl) rfl rfl rfl ?_
      refine hK36 _ _ ?_
      refine g_nil ?_
      refine gk_then (hK33 _ _ ?_)
      refine gc_ret ?_
      refine ret_S (n := 1) rfl rfl Tryz.underlying31 rfl (by kernel_rfl) rfl (fun w M => ?_)
      exact retFn_star (F := selfF c) (mem_block 4 10 (M))
set_option maxHeartbeats 1000000 in
set_option maxRecDepth 100000 in
theorem impl_IdentityFunctor (w : World) (v : Value) (c : Cat) (h : RdC w v c) :
    Calls Tryz.prog 67 #[v] w (RetFI w (fIdentityFunctor c).1 (fIdentityFunctor c).2) := by
  have h0 := h
  obtain ⟨va, vb, vc, vd, ve, vf, vg, vh, rfl, h1, h2, h3, h4, _⟩ := h.lists
  go_enter Tryz.func67, Tryz.ntmps67
  refine gc_enter (N := 27) rfl (look_cons (k := 0) rfl (look_nil _)) ?_
  refine gc_seq fun K1 hK1 => ?_
  refine gc_region ?_
  refine g_op (.free rfl) fun K3 hK3 => ?_
  refine go_box rfl rfl rfl rfl rfl ?_
  intro B2
  refine hK3 _ _ ?_
  refine g_op (.free rfl) fun K5 hK5 => ?_
  refine go_alloc (z := (.agg #[.int .i64 0, .slice none 0 0, .slice none 0 0, .slice none 0 0, .slice none 0 0, .int .i64 0, .slice none 0 0, .slice none 0 0, .slice none 0 0, .slice none 0 0, .slice none 0 0, .slice none 0 0])) (cs := [.int .i64 0, .slice none 0 0, .slice none 0 0, .slice none 0 0, .slice none 0 0, .int .i64 0, .slice none 0 0, .slice none 0 0, .slice none 0 0, .slice none 0 0, .slice none 0 0, .slice none 0 0]) rfl rfl rfl (fun w => by kernel_rfl) rfl ?_
  intro B4
  refine hK5 _ _ ?_
  refine g_v (.free rfl) rfl rfl (qt_assign rfl rfl) ?_
  refine g_nil ?_
  refine gk_then (hK1 _ _ ?_)
  refine gc_seq fun K6 hK6 => ?_
  refine gc_region ?_
  refine g_v (.free rfl) rfl rfl (qt_loadS (n := 0) rfl rfl Tryz.underlying29 rfl (by kernel_rfl) rfl) ?_
  refine g_v (.free rfl) rfl rfl (qt_loadS (n := 0) rfl rfl Tryz.underlying29 rfl (by kernel_rfl) rfl) ?_
  refine g_op (.free rfl) fun K8 hK8 => ?_
  refine go_callCCI rfl rfl rfl Tryz.func98 rfl (by decide) rfl (fun w M => readTwo_any w _ (c) (mem_rdC M h0) _ (c) (mem_rdC M h0)) ?_
  intro ca7 cb7 cc7 cd7 ce7 cf7 cg7 ch7 cu7 da7 db7 dc7 dd7 de7 df7 dg7 dh7 du7
  refine hK8 _ _ ?_
  refine g_v (.free rfl) rfl rfl (qt_move rfl rfl) ?_
  refine g_v (.free rfl) rfl rfl (qt_extract rfl rfl rfl) ?_
  refine g_v (.free rfl) rfl rfl (qt_extract rfl rfl rfl) ?_
  refine g_v (.free rfl) rfl rfl (qt_extract rfl rfl rfl) ?_
  refine g_op (.free rfl) fun K10 hK10 => ?_
  refine go_alloc (z := (.agg #[.int .i64 0, .slice none 0 0, .slice none 0 0, .slice none 0 0, .slice none 0 0])) (cs := [.int .i64 0, .slice none 0 0, .slice none 0 0, .slice none 0 0, .slice none 0 0]) rfl rfl rfl (fun w => by kernel_rfl) rfl ?_
  intro B9
  refine hK10 _ _ ?_
  refine g_op (.free rfl) fun K12 hK12 => ?_
  refine go_alloc (z := (.agg #[.int .i64 0, .slice none 0 0, .slice none 0 0, .slice none 0 0, .slice none 0 0])) (cs := [.int .i64 0, .slice none 0 0, .slice none 0 0, .slice none 0 0, .slice none 0 0]) rfl rfl rfl (fun w => by kernel_rfl) rfl ?_
  intro B11
  refine hK12 _ _ ?_
  refine g_op (.free rfl) fun K13 hK13 => ?_
  refine go_storeS (n := 10) rfl rfl rfl rfl (by kernel_rfl) rfl rfl rfl ?_
  refine hK13 _ _ ?_
  refine g_op (.free rfl) fun K14 hK14 => ?_
  refine go_storeS (n := 11) rfl rfl rfl rfl (by kernel_rfl) rfl rfl rfl ?_
  refine hK14 _ _ ?_
  refine g_v (.free rfl) rfl rfl (qt_assign rfl rfl) ?_
  refine g_nil ?_
  refine gk_then (hK6 _ _ ?_)
  refine gc_seq fun K15 hK15 => ?_
  refine gc_seq fun K16 hK16 => ?_
  refine gc_region ?_
  refine g_v (.free rfl) rfl rfl (qt_move rfl rfl) ?_
  refine g_v (.free rfl) rfl rfl (qt_neq rfl rfl rfl) ?_
  refine g_nil ?_
  refine gk_then (hK16 _ _ ?_)
  refine gc_cond rfl (fun hc0 => ?_) (fun hc0 => ?_)
  · try simp only [decide_eq_true_eq, decide_eq_false_iff_not, Bool.not_eq_true', Bool.not_eq_false', Bool.not_eq_eq_eq_not, Bool.not_true, Bool.not_false, ne_eq, Decidable.not_not, Classical.not_not] at hc0
    refine gc_seq fun K17 hK17 => ?_
    refine gc_region ?_
    refine g_v (.free rfl) rfl rfl (qt_build rfl rfl bt0_Functor) ?_
    refine g_v (.free rfl) rfl rfl (qt_move rfl rfl) ?_
    refine g_op (.free rfl) fun K18 hK18 => ?_
    refine go_storeS (n := 1) rfl rfl rfl rfl (by kernel_rfl) rfl rfl rfl ?_
    refine hK18 _ _ ?_
    refine g_v (.free rfl) rfl rfl (qt_assign rfl rfl) ?_
    refine g_nil ?_
    refine gk_then (hK17 _ _ ?_)
    refine gc_ret ?_
    refine gk_then_ret ?_
    refine ret_SI (n := 1) rfl rfl rfl Tryz.underlying31 rfl (by kernel_rfl) rfl (fun w M => ?_)
    rw [(twoErr_n hc0).2, idf_f (fun h => (twoErr_n hc0).1 ⟨h, h⟩)]; exact retFI_zero M.1
  · try simp only [decide_eq_true_eq, decide_eq_false_iff_not, Bool.not_eq_true', Bool.not_eq_false', Bool.not_eq_eq_eq_not, Bool.not_true, Bool.not_false, ne_eq, Decidable.not_not, Classical.not_not] at hc0
    refine gc_skip ?_
    refine gk_then (hK15 _ _ ?_)
    refine gc_seq fun K19 hK19 => ?_
    have hI := (twoErr_0 hc0).1
    have hC := two_c hc0
    simp only [hC.1, hC.2]
    have hS := (isCat_of hI).toShapeP
    have hob0 := hS.ob0; have hob8 := hS.ob8; have hn40 := hS.n40
    try simp only [List.nil_append, List.cons_append, List.append_assoc, List.set_cons_succ, List.set_cons_zero]
    refine ga_start _ (fun w M => mem_erase 1 (M)) ?_
    refine ga_v 0 rfl (by kernel_rfl) (by kernel_rfl) (by kernel_rfl) (.free rfl) rfl rfl (qt_loadS (n := 9) rfl rfl Tryz.underlying29 rfl (by kernel_rfl) rfl) (fun _ _ _ h => h) ?_
    refine ga_v 1 rfl (by kernel_rfl) (by kernel_rfl) (by kernel_rfl) (.free rfl) rfl rfl (qt_loadS (n := 10) rfl rfl Tryz.underlying29 rfl (by kernel_rfl) rfl) (fun _ _ _ h => h) ?_
    refine ga_v 2 rfl (by kernel_rfl) (by kernel_rfl) (by kernel_rfl) (.free rfl) rfl rfl (qt_field (z := 0) (off := 0) rfl rfl Tryz.underlying29 rfl (by kernel_rfl) rfl) (fun _ _ _ h => h) ?_
    refine ga_v 3 rfl (by kernel_rfl) (by kernel_rfl) (by kernel_rfl) (.free rfl) rfl rfl (qt_loadB (n := 9) rfl rfl Tryz.underlying2 rfl rfl rfl) (fun _ _ _ h => h) ?_
    refine ga_v 5 rfl (by kernel_rfl) (by kernel_rfl) (by kernel_rfl) (.free rfl) rfl rfl (qt_loadS (n := 9) rfl rfl Tryz.underlying29 rfl (by kernel_rfl) rfl) (fun _ _ _ h => h) ?_
    refine ga_op 4 (by kernel_rfl) rfl (.free rfl) fun K21 hK21 => ?_
    refine go_callL rfl rfl rfl Tryz.func99 rfl (by decide) rfl (fun w M => countL_any w _ (by first | assumption | omega) (by first | assumption | omega)) ?_
    intro va20 vc20
    refine hK21 _ _ (fun w M => (mem_erase 1 (mem_take 12 M) :)) ?_
    refine ga_op 6 (by kernel_rfl) rfl (.free rfl) fun K22 hK22 => ?_
    refine go_q rfl rfl (qt_call rfl Tryz.func100 rfl (by decide) rfl (fun w M => arrows_any w _ _ (rdC_mk ((mem_own1 (n := 2) M rfl).rd) ((mem_own1 (n := 3) M rfl).rd) ((mem_own1 (n := 4) M rfl).rd) (mem_rdU (n := 5) M rfl)))) ?_
    refine hK22 _ _ (fun w M => (mem_erase 1 (mem_take 12 M) :)) ?_
    refine ga_op 7 (by kernel_rfl) rfl (.free rfl) fun K24 hK24 => ?_
    refine go_callL rfl rfl rfl Tryz.func99 rfl (by decide) rfl (fun w M => countL_any w _ (by first | assumption | omega) (by first | assumption | omega)) ?_
    intro va23 vc23
    refine hK24 _ _ (fun w M => (mem_erase 1 (mem_take 12 M) :)) ?_
    refine ga_v 8 rfl (by kernel_rfl) (by kernel_rfl) (by kernel_rfl) (.free rfl) rfl rfl (qt_build rfl rfl bt_Functor) (fun _ _ _ h => h) ?_
    refine ga_op 9 (by kernel_rfl) rfl (.free rfl) fun K25 hK25 => ?_
    refine go_storeS (n := 1) rfl rfl rfl rfl (by kernel_rfl) rfl rfl rfl ?_
    refine hK25 _ _ (fun w M => (mem_erase 1 (mem_take 12 M) :)) ?_
    refine ga_v 10 rfl (by kernel_rfl) (by kernel_rfl) (by kernel_rfl) (.free rfl) rfl rfl (qt_assign rfl rfl) (fun _ _ _ h => h) ?_
    refine ga_done (by kernel_rfl) ?_
    refine gk_then (hK19 _ _ ?_)
    refine gc_ret ?_
    refine ret_SI (n := 1) rfl rfl rfl Tryz.underlying31 rfl (by kernel_rfl) rfl (fun w M => ?_)
    rw [idf_t hI]; exact retFI_star (F := selfF c) (mem_block 4 8 (mem_block 12 2 (M)))
end Go.Proofs.YtpcabkdkdnchaaaGreat
