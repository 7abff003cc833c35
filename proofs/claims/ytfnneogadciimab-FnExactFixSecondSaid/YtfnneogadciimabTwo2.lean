
/- Two categories that are read: the model's and the program's. -/
import Derived.Test.YtfnneogadciimabShort
import Derived.Test.YtfnneogadciimabZer
import Derived.Test.YtfnneogadciimabSq
set_option linter.unusedSimpArgs false
set_option linter.unusedVariables false
set_option linter.unusedSectionVars false
namespace Go.Proofs.Ytfnneogadciimab
open Go.RowKit


noncomputable def twoErr (c d : Cat) : Int := if fIsCategory c = true ∧ fIsCategory d = true then 0 else 1
theorem twoErr_f {c d : Cat} (h : ¬ (fIsCategory c = true ∧ fIsCategory d = true)) : twoErr c d = 1 := if_neg h
theorem twoErr_t {c d : Cat} (h : fIsCategory c = true) (h' : fIsCategory d = true) : twoErr c d = 0 := if_pos ⟨h, h'⟩
theorem twoErr_0 {c d : Cat} (h : twoErr c d = 0) : fIsCategory c = true ∧ fIsCategory d = true := by
 by_cases hh : fIsCategory c = true ∧ fIsCategory d = true
 ·exact hh
 ·rw [twoErr_f hh] at h; omega
theorem twoErr_n {c d : Cat} (h : ¬ twoErr c d = 0) : ¬ (fIsCategory c = true ∧ fIsCategory d = true) ∧ twoErr c d = 1 := by
 by_cases hh : fIsCategory c = true ∧ fIsCategory d = true
 ·exact absurd (twoErr_t hh.1 hh.2) h
 ·exact ⟨hh, twoErr_f hh⟩
noncomputable def twoD (c d : Cat) : Cat := if fIsCategory c = true then catCat d else cat0
theorem two_n {c d : Cat} (h : ¬ catErr c = 0) : twoErr c d = 1 ∧ catErr c = 1 ∧ catCat c = cat0 ∧ twoD c d = cat0 := by
 have h1 := catErr_n h
 exact ⟨twoErr_f fun hh => by rw [hh.1] at h1; simp at h1, h1.2, if_neg (by rw [h1.1]; decide), if_neg (by rw [h1.1]; decide)⟩
theorem two_t {c d : Cat} (h : catErr c = 0) : twoErr c d = catErr d ∧ twoD c d = catCat d := by
 have h1 := catErr_0 h
 refine ⟨?_, if_pos h1⟩
 unfold twoErr catErr
 by_cases h2 : fIsCategory d = true
 ·rw [if_pos ⟨h1, h2⟩, if_pos h2]
 ·rw [if_neg (fun hh => h2 hh.2), if_neg h2]
theorem two_c {c d : Cat} (h : twoErr c d = 0) : catCat c = c ∧ twoD c d = d := by
 have h1 := twoErr_0 h
 exact ⟨if_pos h1.1, (if_pos h1.1).trans (if_pos h1.2)⟩

set_option maxHeartbeats 1000000 in
set_option maxRecDepth 100000 in
theorem readCatZ_f (w : World) (v : Value) (c : Cat) (h : RdC w v c) (hI : fIsCategory c = false) :
  Calls Try.prog 143 #[v] w (ZeroC w 1) := by
 have h0 := h
 obtain ⟨va, vb, vc, vd, ve, vf, vg, vh, rfl, h1, h2, h3, h4, _⟩ := h.lists
 go_enter Try.func143, Try.ntmps143
 refine gc_enter (N := 10) rfl (look_cons (k := 0) rfl (look_nil _)) ?_
 refine gc_sr fun K1 hK1 => ?_
 refine gop fun K3 hK3 => ?_
 refine go_box rfl rfl rfl rfl rfl ?_
 intro B2
 refine hK3 _ _ ?_
 refine gop fun K5 hK5 => ?_
 refine go_alloc (z := (.agg #[.int .i64 0, .slice none 0 0, .slice none 0 0, .slice none 0 0, .slice none 0 0])) (cs := [.int .i64 0, .slice none 0 0, .slice none 0 0, .slice none 0 0, .slice none 0 0]) rfl rfl rfl (fun w => by kernel_rfl) rfl ?_
 intro B4
 refine hK5 _ _ ?_
 refine gas ?_
 refine gnt (hK1 _ _ ?_)
 refine gc_seq fun K6 hK6 => ?_
 refine gc_sr fun K7 hK7 => ?_
 refine gv (qts Try.underlying30 (n := 0)) ?_
 refine g_q (.free rfl) rfl rfl (qt_call rfl Try.func163 rfl (by decide) rfl (fun w M => impl_IsCategory w _ _ (mem_rdC M h0))) ?_
 refine gv (qt_not rfl rfl) ?_
 refine gnt (hK7 _ _ ?_)
 refine gc_cond rfl (fun hc0 => ?_) (fun hc0 => ?_)
 ·try simp only [sA] at hc0
  refine gc_sr fun K8 hK8 => ?_
  refine gv (qt_build rfl rfl bt0_Category) ?_
  refine gop fun K9 hK9 => ?_
  refine go_storeS (n := 1) rfl rfl rfl rfl (by kernel_rfl) rfl rfl rfl ?_
  refine hK9 _ _ ?_
  refine gas ?_
  refine gnt (hK8 _ _ ?_)
  refine gc_ret ?_
  refine gk_then_ret ?_
  refine ret_SI (n := 1) rfl rfl rfl Try.underlying30 rfl (by kernel_rfl) rfl (fun w M => ?_)
  exact ⟨rfl, M.1⟩
 ·try simp only [sA] at hc0
  rw [hI] at hc0; cases hc0

set_option maxHeartbeats 1000000 in
set_option maxRecDepth 100000 in
theorem readBothC_any (w : World) (v : Value) (c : Cat) (h : RdC w v c) (u : Value) (d : Cat) (e : RdC w u d) (g : Value) (gf : ∀ w', Below w.heap.size w w' → ∀ v c, RdC w' v c → fIsCategory c = false → CallsV g [v] w' (ZeroC w' 1)) (gt : ∀ w', Below w.heap.size w w' → ∀ v c, RdC w' v c → fIsCategory c = true → CallsV g [v] w' (RetCI w' c 0)) :
  Calls Try.prog 142 #[v, u, g] w (RetCCI w (catCat c) (twoD c d) (twoErr c d)) := by
 have h0 := h
 obtain ⟨va, vb, vc, vd, ve, vf, vg, vh, rfl, h1, h2, h3, h4, _⟩ := h.lists
 have e0 := e
 obtain ⟨ua, ub, uc, ud, ue, uf, ug, uh, rfl, e1, e2, e3, e4, _⟩ := e.lists
 go_enter Try.func142, Try.ntmps142
 refine gc_enter (N := 32) rfl (look_cons (k := 0) rfl (look_cons (k := 1) rfl (look_cons (k := 2) rfl (look_nil _)))) ?_
 refine gc_sr fun K1 hK1 => ?_
 refine gop fun K3 hK3 => ?_
 refine go_box rfl rfl rfl rfl rfl ?_
 intro B2
 refine hK3 _ _ ?_
 refine gop fun K5 hK5 => ?_
 refine go_box rfl rfl rfl rfl rfl ?_
 intro B4
 refine hK5 _ _ ?_
 refine gop fun K7 hK7 => ?_
 refine go_alloc (z := (.agg #[.int .i64 0, .slice none 0 0, .slice none 0 0, .slice none 0 0, .slice none 0 0])) (cs := [.int .i64 0, .slice none 0 0, .slice none 0 0, .slice none 0 0, .slice none 0 0]) rfl rfl rfl (fun w => by kernel_rfl) rfl ?_
 intro B6
 refine hK7 _ _ ?_
 refine gop fun K9 hK9 => ?_
 refine go_alloc (z := (.agg #[.int .i64 0, .slice none 0 0, .slice none 0 0, .slice none 0 0, .slice none 0 0])) (cs := [.int .i64 0, .slice none 0 0, .slice none 0 0, .slice none 0 0, .slice none 0 0]) rfl rfl rfl (fun w => by kernel_rfl) rfl ?_
 intro B8
 refine hK9 _ _ ?_
 refine gas ?_
 refine gnt (hK1 _ _ ?_)
 refine gc_seq fun K10 hK10 => ?_
 rcases ((Bool.eq_false_or_eq_true (fIsCategory c))) with hk0 | hk1
 ·skip
  have hC := hk0
  refine gc_region ?_
  refine gm ?_
  refine gv (qts Try.underlying30 (n := 0)) ?_
  refine gop fun K12 hK12 => ?_
  refine go_callVCI rfl rfl rfl rfl rfl (fun w M => gt w M.1 _ _ (mem_rdC M h0) hk0) ?_
  intro ca11 cb11 cc11 cd11 ce11 cf11 cg11 ch11 cu11
  refine hK12 _ _ ?_
  refine gm ?_
  refine gv (qt_extract rfl rfl rfl) ?_
  refine gv (qt_extract rfl rfl rfl) ?_
  refine gop fun K14 hK14 => ?_
  refine go_alloc (z := (.agg #[.int .i64 0, .slice none 0 0, .slice none 0 0, .slice none 0 0, .slice none 0 0])) (cs := [.int .i64 0, .slice none 0 0, .slice none 0 0, .slice none 0 0, .slice none 0 0]) rfl rfl rfl (fun w => by kernel_rfl) rfl ?_
  intro B13
  refine hK14 _ _ ?_
  refine gop fun K15 hK15 => ?_
  refine go_storeS (n := 8) rfl rfl rfl rfl (by kernel_rfl) rfl rfl rfl ?_
  refine hK15 _ _ ?_
  refine gas ?_
  refine gnt (hK10 _ _ ?_)
  refine gc_seq fun K16 hK16 => ?_
  refine gc_sr fun K17 hK17 => ?_
  refine gm ?_
  refine gv (qt_neq_f rfl rfl rfl (by decide)) ?_
  refine gnt (hK17 _ _ ?_)
  refine gc_cond_f rfl ?_
  refine gc_skip ?_
  refine gk_then (hK16 _ _ ?_)
  refine gc_seq fun K18 hK18 => ?_
  rcases ((Bool.eq_false_or_eq_true (fIsCategory d))) with hk0 | hk1
  ·skip
   have hD := hk0
   refine gc_region ?_
   refine gm ?_
   refine gv (qts Try.underlying30 (n := 1)) ?_
   refine gop fun K20 hK20 => ?_
   refine go_callVCI rfl rfl rfl rfl rfl (fun w M => gt w M.1 _ _ (mem_rdC M e0) hk0) ?_
   intro ca19 cb19 cc19 cd19 ce19 cf19 cg19 ch19 cu19
   refine hK20 _ _ ?_
   refine gm ?_
   refine gv (qt_extract rfl rfl rfl) ?_
   refine gv (qt_extract rfl rfl rfl) ?_
   refine gop fun K22 hK22 => ?_
   refine go_alloc (z := (.agg #[.int .i64 0, .slice none 0 0, .slice none 0 0, .slice none 0 0, .slice none 0 0])) (cs := [.int .i64 0, .slice none 0 0, .slice none 0 0, .slice none 0 0, .slice none 0 0]) rfl rfl rfl (fun w => by kernel_rfl) rfl ?_
   intro B21
   refine hK22 _ _ ?_
   refine gop fun K23 hK23 => ?_
   refine go_storeS (n := 13) rfl rfl rfl rfl (by kernel_rfl) rfl rfl rfl ?_
   refine hK23 _ _ ?_
   refine gas ?_
   refine gnt (hK18 _ _ ?_)
   refine gc_seq fun K24 hK24 => ?_
   try simp only [sL]
   refine ga_start _ (fun w M => mem_erase 2 (mem_erase 3 (M))) ?_
   refine gav 0 rfl (qts Try.underlying30 (n := 6)) ?_
   refine gav 1 rfl (qts Try.underlying30 (n := 11)) ?_
   refine gav 2 rfl (qt_move rfl rfl) ?_
   refine gao 3 fun K25 hK25 => ?_
   refine go_storeS (n := 2) rfl rfl rfl rfl (by kernel_rfl) rfl rfl rfl ?_
   refine hK25 _ _ (fun w M => (mem_erase 2 (mem_erase 3 (mem_take 14 M)) :)) ?_
   refine gao 4 fun K26 hK26 => ?_
   refine go_storeS (n := 3) rfl rfl rfl rfl (by kernel_rfl) rfl rfl rfl ?_
   refine hK26 _ _ (fun w M => (mem_erase 2 (mem_erase 3 (mem_take 14 M)) :)) ?_
   refine gav 5 rfl (qt_assign rfl rfl) ?_
   refine ga_done (by kernel_rfl) ?_
   refine gk_then (hK24 _ _ ?_)
   refine gc_ret ?_
   refine ret_SSI (n := 2) (n' := 3) rfl rfl rfl rfl Try.underlying30 rfl (by kernel_rfl) rfl Try.underlying30 rfl (by kernel_rfl) rfl (fun w M => ?_)
   rw [twoErr_t hC hD, (two_c (twoErr_t hC hD)).1, (two_c (twoErr_t hC hD)).2]; exact retCCI_star (mem_pick (n := 11) (mem_pick (n := 11) (mem_pick (n := 11) (mem_pick (n := 11) (mem_pick (n := 12) (mem_pick (n := 12) (mem_pick (n := 12) (mem_pick (n := 12) (M) rfl) rfl) rfl) rfl) rfl) rfl) rfl) rfl).2 M.1
  ·skip
   have hD := hk1
   refine gc_region ?_
   refine gm ?_
   refine gv (qts Try.underlying30 (n := 1)) ?_
   refine g_q (.free rfl) rfl rfl (qt_callV rfl rfl rfl (fun w M => gf w M.1 _ _ (mem_rdC M e0) hk1)) ?_
   refine gm ?_
   refine gv (qt_extract rfl rfl rfl) ?_
   refine gv (qt_extract rfl rfl rfl) ?_
   refine gop fun K28 hK28 => ?_
   refine go_alloc (z := (.agg #[.int .i64 0, .slice none 0 0, .slice none 0 0, .slice none 0 0, .slice none 0 0])) (cs := [.int .i64 0, .slice none 0 0, .slice none 0 0, .slice none 0 0, .slice none 0 0]) rfl rfl rfl (fun w => by kernel_rfl) rfl ?_
   intro B27
   refine hK28 _ _ ?_
   refine gop fun K29 hK29 => ?_
   refine go_storeS (n := 9) rfl rfl rfl rfl (by kernel_rfl) rfl rfl rfl ?_
   refine hK29 _ _ ?_
   refine gas ?_
   refine gnt (hK18 _ _ ?_)
   refine gc_seq fun K30 hK30 => ?_
   try simp only [sL]
   refine ga_start _ (fun w M => mem_erase 2 (mem_erase 3 (M))) ?_
   refine gav 0 rfl (qts Try.underlying30 (n := 6)) ?_
   refine gav 1 rfl (qts Try.underlying30 (n := 7)) ?_
   refine gav 2 rfl (qt_move rfl rfl) ?_
   refine gao 3 fun K31 hK31 => ?_
   refine go_storeS (n := 2) rfl rfl rfl rfl (by kernel_rfl) rfl rfl rfl ?_
   refine hK31 _ _ (fun w M => (mem_erase 2 (mem_erase 3 (mem_take 10 M)) :)) ?_
   refine gao 4 fun K32 hK32 => ?_
   refine go_storeS (n := 3) rfl rfl rfl rfl (by kernel_rfl) rfl rfl rfl ?_
   refine hK32 _ _ (fun w M => (mem_erase 2 (mem_erase 3 (mem_take 10 M)) :)) ?_
   refine gav 5 rfl (qt_assign rfl rfl) ?_
   refine ga_done (by kernel_rfl) ?_
   refine gk_then (hK30 _ _ ?_)
   refine gc_ret ?_
   refine ret_SSI (n := 2) (n' := 3) rfl rfl rfl rfl Try.underlying30 rfl (by kernel_rfl) rfl Try.underlying30 rfl (by kernel_rfl) rfl (fun w M => ?_)
   rw [twoErr_f (fun hh => by rw [hD] at hh; cases hh.2), show catCat c = c from if_pos hC, show twoD c d = cat0 from (if_pos hC).trans (if_neg (by rw [hD]; decide))]; exact retCCI_half (mem_pick (n := 7) (mem_pick (n := 7) (mem_pick (n := 7) (mem_pick (n := 7) (M) rfl) rfl) rfl) rfl)
 ·skip
  have hC := hk1
  refine gc_region ?_
  refine gm ?_
  refine gv (qts Try.underlying30 (n := 0)) ?_
  refine g_q (.free rfl) rfl rfl (qt_callV rfl rfl rfl (fun w M => gf w M.1 _ _ (mem_rdC M h0) hk1)) ?_
  refine gm ?_
  refine gv (qt_extract rfl rfl rfl) ?_
  refine gv (qt_extract rfl rfl rfl) ?_
  refine gop fun K34 hK34 => ?_
  refine go_alloc (z := (.agg #[.int .i64 0, .slice none 0 0, .slice none 0 0, .slice none 0 0, .slice none 0 0])) (cs := [.int .i64 0, .slice none 0 0, .slice none 0 0, .slice none 0 0, .slice none 0 0]) rfl rfl rfl (fun w => by kernel_rfl) rfl ?_
  intro B33
  refine hK34 _ _ ?_
  refine gop fun K35 hK35 => ?_
  refine go_storeS (n := 4) rfl rfl rfl rfl (by kernel_rfl) rfl rfl rfl ?_
  refine hK35 _ _ ?_
  refine gas ?_
  refine gnt (hK10 _ _ ?_)
  refine gc_seq fun K36 hK36 => ?_
  refine gc_sr fun K37 hK37 => ?_
  refine gm ?_
  refine gv (qt_neq_t rfl rfl rfl (by decide)) ?_
  refine gnt (hK37 _ _ ?_)
  refine gc_cond_t rfl ?_
  refine gc_seq fun K38 hK38 => ?_
  try simp only [sL]
  refine ga_start _ (fun w M => mem_erase 2 (mem_erase 3 (M))) ?_
  refine gav 0 rfl (qts Try.underlying30 (n := 2)) ?_
  refine gav 1 rfl (qts Try.underlying30 (n := 2)) ?_
  refine gav 2 rfl (qt_move rfl rfl) ?_
  refine gao 3 fun K39 hK39 => ?_
  refine go_storeS (n := 2) rfl rfl rfl rfl (by kernel_rfl) rfl rfl rfl ?_
  refine hK39 _ _ (fun w M => (mem_erase 2 (mem_erase 3 (mem_take 5 M)) :)) ?_
  refine gao 4 fun K40 hK40 => ?_
  refine go_storeS (n := 3) rfl rfl rfl rfl (by kernel_rfl) rfl rfl rfl ?_
  refine hK40 _ _ (fun w M => (mem_erase 2 (mem_erase 3 (mem_take 5 M)) :)) ?_
  refine gav 5 rfl (qt_assign rfl rfl) ?_
  refine ga_done (by kernel_rfl) ?_
  refine gk_then (hK38 _ _ ?_)
  refine gc_ret ?_
  refine gk_then_ret ?_
  refine ret_SSI (n := 2) (n' := 3) rfl rfl rfl rfl Try.underlying30 rfl (by kernel_rfl) rfl Try.underlying30 rfl (by kernel_rfl) rfl (fun w M => ?_)
  rw [twoErr_f (fun hh => by rw [hC] at hh; cases hh.1), show catCat c = cat0 from if_neg (by rw [hC]; decide), show twoD c d = cat0 from if_neg (by rw [hC]; decide)]; exact retCCI_zero M.1

set_option maxHeartbeats 1000000 in
set_option maxRecDepth 100000 in
theorem readTwo_any (w : World) (v : Value) (c : Cat) (h : RdC w v c) (u : Value) (d : Cat) (e : RdC w u d) :
  Calls Try.prog 115 #[v, u] w (RetCCI w (catCat c) (twoD c d) (twoErr c d)) := by
 have h0 := h
 obtain ⟨va, vb, vc, vd, ve, vf, vg, vh, rfl, h1, h2, h3, h4, _⟩ := h.lists
 have e0 := e
 obtain ⟨ua, ub, uc, ud, ue, uf, ug, uh, rfl, e1, e2, e3, e4, _⟩ := e.lists
 go_enter Try.func115, Try.ntmps115
 refine gc_enter (N := 13) rfl (look_cons (k := 0) rfl (look_cons (k := 1) rfl (look_nil _))) ?_
 refine gc_sr fun K1 hK1 => ?_
 refine gop fun K3 hK3 => ?_
 refine go_box rfl rfl rfl rfl rfl ?_
 intro B2
 refine hK3 _ _ ?_
 refine gop fun K5 hK5 => ?_
 refine go_box rfl rfl rfl rfl rfl ?_
 intro B4
 refine hK5 _ _ ?_
 refine gop fun K7 hK7 => ?_
 refine go_alloc (z := (.agg #[.int .i64 0, .slice none 0 0, .slice none 0 0, .slice none 0 0, .slice none 0 0])) (cs := [.int .i64 0, .slice none 0 0, .slice none 0 0, .slice none 0 0, .slice none 0 0]) rfl rfl rfl (fun w => by kernel_rfl) rfl ?_
 intro B6
 refine hK7 _ _ ?_
 refine gop fun K9 hK9 => ?_
 refine go_alloc (z := (.agg #[.int .i64 0, .slice none 0 0, .slice none 0 0, .slice none 0 0, .slice none 0 0])) (cs := [.int .i64 0, .slice none 0 0, .slice none 0 0, .slice none 0 0, .slice none 0 0]) rfl rfl rfl (fun w => by kernel_rfl) rfl ?_
 intro B8
 refine hK9 _ _ ?_
 refine gas ?_
 refine gnt (hK1 _ _ ?_)
 refine gc_sr fun K10 hK10 => ?_
 refine gv (qts Try.underlying30 (n := 0)) ?_
 refine gv (qts Try.underlying30 (n := 1)) ?_
 refine gop fun K12 hK12 => ?_
 refine go_callCCI rfl rfl rfl Try.func142 rfl (by decide) rfl (fun w M => readBothC_any w _ _ (mem_rdC M h0) _ _ (mem_rdC M e0) (_) (fun w' hb v c h hI => callsV_f (bnd := []) (vs := [_]) (caps := []) Try.func143 rfl (by decide) (readCatZ_f w' v c h hI)) (fun w' hb v c h hI => callsV_f (bnd := []) (vs := [_]) (caps := []) Try.func143 rfl (by decide) (readCategory_t w' v c h hI))) ?_
 intro ca11 cb11 cc11 cd11 ce11 cf11 cg11 ch11 cu11 da11 db11 dc11 dd11 de11 df11 dg11 dh11 du11
 refine hK12 _ _ ?_
 refine gv (qt_extract rfl rfl rfl) ?_
 refine gv (qt_extract rfl rfl rfl) ?_
 refine gv (qt_extract rfl rfl rfl) ?_
 refine gop fun K13 hK13 => ?_
 refine go_storeS (n := 2) rfl rfl rfl rfl (by kernel_rfl) rfl rfl rfl ?_
 refine hK13 _ _ ?_
 refine gop fun K14 hK14 => ?_
 refine go_storeS (n := 3) rfl rfl rfl rfl (by kernel_rfl) rfl rfl rfl ?_
 refine hK14 _ _ ?_
 refine gas ?_
 refine gnt (hK10 _ _ ?_)
 refine gc_ret ?_
 refine ret_SSI (n := 2) (n' := 3) rfl rfl rfl rfl Try.underlying30 rfl (by kernel_rfl) rfl Try.underlying30 rfl (by kernel_rfl) rfl (fun w M => ?_)
 exact retCCI_star (mem_pick (n := 11) (mem_pick (n := 11) (mem_pick (n := 11) (mem_pick (n := 11) (mem_pick (n := 11) (mem_pick (n := 11) (mem_pick (n := 11) (mem_pick (n := 11) (M) rfl) rfl) rfl) rfl) rfl) rfl) rfl) rfl).2 M.1

end Go.Proofs.Ytfnneogadciimab
