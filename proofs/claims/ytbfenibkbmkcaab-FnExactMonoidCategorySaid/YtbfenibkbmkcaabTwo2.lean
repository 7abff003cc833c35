
/- Two categories that are read: the model's and the program's. -/
import Derived.Test.YtbfenibkbmkcaabShort
import Derived.Test.YtbfenibkbmkcaabZer
import Derived.Test.YtbfenibkbmkcaabSq
set_option linter.unusedSimpArgs false
set_option linter.unusedVariables false
set_option linter.unusedSectionVars false
namespace Go.Proofs.Ytbfenibkbmkcaab
open Go.RowKit


noncomputable def twoErr (c d : Cat) : Int := if fIsCategory c = true ∧ fIsCategory d = true then 0 else 1
theorem twoErr_f {c d : Cat} (h : ¬ (fIsCategory c = true ∧ fIsCategory d = true)) : twoErr c d = 1 := if_neg h
theorem twoErr_t {c d : Cat} (h : fIsCategory c = true) (h' : fIsCategory d = true) : twoErr c d = 0 := if_pos ⟨h, h'⟩
theorem twoErr_0 {c d : Cat} (h : twoErr c d = 0) : fIsCategory c = true ∧ fIsCategory d = true := by
 by_cases hh : fIsCategory c = true ∧ fIsCategory d = true
 ·exact hh
 ·rw [twoErr_f hh] at h; omega
theorem twoErr_n {c d : Cat} (h : ¬ twoErr c d = 0) : ¬ (fIsCategory c = true ∧ fIsCategory d = true) ∧ twoErr c d = 1 := by
 by_cases hh : fIsCategory c = true ∧ fIsCategory d = true
 ·exact absurd (twoErr_t hh.1 hh.2) h
 ·exact ⟨hh, twoErr_f hh⟩
noncomputable def twoD (c d : Cat) : Cat := if fIsCategory c = true then catCat d else cat0
theorem two_n {c d : Cat} (h : ¬ catErr c = 0) : twoErr c d = 1 ∧ catErr c = 1 ∧ catCat c = cat0 ∧ twoD c d = cat0 := by
 have h1 := catErr_n h
 exact ⟨twoErr_f fun hh => by rw [hh.1] at h1; simp at h1, h1.2, if_neg (by rw [h1.1]; decide), if_neg (by rw [h1.1]; decide)⟩
theorem two_t {c d : Cat} (h : catErr c = 0) : twoErr c d = catErr d ∧ twoD c d = catCat d := by
 have h1 := catErr_0 h
 refine ⟨?_, if_pos h1⟩
 unfold twoErr catErr
 by_cases h2 : fIsCategory d = true
 ·rw [if_pos ⟨h1, h2⟩, if_pos h2]
 ·rw [if_neg (fun hh => h2 hh.2), if_neg h2]
theorem two_c {c d : Cat} (h : twoErr c d = 0) : catCat c = c ∧ twoD c d = d := by
 have h1 := twoErr_0 h
 exact ⟨if_pos h1.1, (if_pos h1.1).trans (if_pos h1.2)⟩

set_option maxHeartbeats 1000000 in
set_option maxRecDepth 100000 in
theorem readCatZ_f (w : World) (v : Value) (c : Cat) (h : RdC w v c) (hI : fIsCategory c = false) :
  Calls Try.prog 70 #[v] w (ZeroC w 1) := by
 have h0 := h
 obtain ⟨va, vb, vc, vd, ve, vf, vg, vh, rfl, h1, h2, h3, h4, _⟩ := h.lists
 go_enter Try.func70, Try.ntmps70
 refine gc_enter (N := 10) rfl (look_cons (k := 0) rfl (look_nil _)) ?_
 refine gc_sr fun K1 hK1 => ?_
 refine gop fun K3 hK3 => ?_
 refine go_box rfl rfl rfl rfl rfl ?_
 intro B2
 refine hK3 _ _ ?_
 refine gop fun K5 hK5 => ?_
 refine go_alloc (z := (.agg #[.int .i64 0, .slice none 0 0, .slice none 0 0, .slice none 0 0, .slice none 0 0])) (cs := [.int .i64 0, .slice none 0 0, .slice none 0 0, .slice none 0 0, .slice none 0 0]) rfl rfl rfl (fun w => by kernel_rfl) rfl ?_
 intro B4
 refine hK5 _ _ ?_
 refine gas ?_
 refine gnt (hK1 _ _ ?_)
 refine gc_seq fun K6 hK6 => ?_
 refine gc_sr fun K7 hK7 => ?_
 refine gv (qts Try.underlying25 (n := 0)) ?_
 refine g_q (.free rfl) rfl rfl (qt_call rfl Try.func82 rfl (by decide) rfl (fun w M => impl_IsCategory w _ _ (mem_rdC M h0))) ?_
 refine gv (qt_not rfl rfl) ?_
 refine gnt (hK7 _ _ ?_)
 refine gc_cond rfl (fun hc0 => ?_) (fun hc0 => ?_)
 ·try simp only [sA] at hc0
  refine gc_sr fun K8 hK8 => ?_
  refine gv (qt_build rfl rfl bt0_Category) ?_
  refine gop fun K9 hK9 => ?_
  refine go_storeS (n := 1) rfl rfl rfl rfl (by kernel_rfl) rfl rfl rfl ?_
  refine hK9 _ _ ?_
  refine gas ?_
  refine gnt (hK8 _ _ ?_)
  refine gc_ret ?_
  refine gk_then_ret ?_
  refine ret_SI (n := 1) rfl rfl rfl Try.underlying25 rfl (by kernel_rfl) rfl (fun w M => ?_)
  exact ⟨rfl, M.1⟩
 ·try simp only [sA] at hc0
  rw [hI] at hc0; cases hc0

end Go.Proofs.Ytbfenibkbmkcaab
