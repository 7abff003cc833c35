
/- Two categories that are read: the model's and the program's. -/
import Derived.Test.YtpppoipaabofgaaShort
import Derived.Test.YtpppoipaabofgaaZer
import Derived.Test.YtpppoipaabofgaaSq
set_option linter.unusedSimpArgs false
set_option linter.unusedVariables false
set_option linter.unusedSectionVars false
namespace Go.Proofs.Ytpppoipaabofgaa
open Go.RowKit


noncomputable def twoErr (c d : Cat) : Int := if fIsCategory c = true ∧ fIsCategory d = true then 0 else 1
theorem twoErr_f {c d : Cat} (h : ¬ (fIsCategory c = true ∧ fIsCategory d = true)) : twoErr c d = 1 := if_neg h
theorem twoErr_t {c d : Cat} (h : fIsCategory c = true) (h' : fIsCategory d = true) : twoErr c d = 0 := if_pos ⟨h, h'⟩
theorem twoErr_0 {c d : Cat} (h : twoErr c d = 0) : fIsCategory c = true ∧ fIsCategory d = true := by
 by_cases hh : fIsCategory c = true ∧ fIsCategory d = true
 ·exact hh
 ·rw [twoErr_f hh] at h; omega
theorem twoErr_n {c d : Cat} (h : ¬ twoErr c d = 0) : ¬ (fIsCategory c = true ∧ fIsCategory d = true) ∧ twoErr c d = 1 := by
 by_cases hh : fIsCategory c = true ∧ fIsCategory d = true
 ·exact absurd (twoErr_t hh.1 hh.2) h
 ·exact ⟨hh, twoErr_f hh⟩
noncomputable def twoD (c d : Cat) : Cat := if fIsCategory c = true then catCat d else cat0
theorem two_n {c d : Cat} (h : ¬ catErr c = 0) : twoErr c d = 1 ∧ catErr c = 1 ∧ catCat c = cat0 ∧ twoD c d = cat0 := by
 have h1 := catErr_n h
 exact ⟨twoErr_f fun hh => by rw [hh.1] at h1; simp at h1, h1.2, if_neg (by rw [h1.1]; decide), if_neg (by rw [h1.1]; decide)⟩
theorem two_t {c d : Cat} (h : catErr c = 0) : twoErr c d = catErr d ∧ twoD c d = catCat d := by
 have h1 := catErr_0 h
 refine ⟨?_, if_pos h1⟩
 unfold twoErr catErr
 by_cases h2 : fIsCategory d = true
 ·rw [if_pos ⟨h1, h2⟩, if_pos h2]
 ·rw [if_neg (fun hh => h2 hh.2), if_neg h2]
theorem two_c {c d : Cat} (h : twoErr c d = 0) : catCat c = c ∧ twoD c d = d := by
 have h1 := twoErr_0 h
 exact ⟨if_pos h1.1, (if_pos h1.1).trans (if_pos h1.2)⟩

end Go.Proofs.Ytpppoipaabofgaa
