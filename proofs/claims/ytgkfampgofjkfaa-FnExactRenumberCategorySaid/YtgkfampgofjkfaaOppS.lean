
/- The opposite of a category: the model's. -/
import Derived.Test.YtgkfampgofjkfaaShort
import Derived.Test.YtgkfampgofjkfaaEnts
import Derived.Test.YtgkfampgofjkfaaOwnL
set_option linter.unusedSimpArgs false
set_option linter.unusedVariables false
set_option linter.unusedSectionVars false
namespace Go.Proofs.Ytgkfampgofjkfaa
open Go.RowKit


theorem th_def (c : Cat) (f g : Int) : at0 (row2 c.m f) g = c.th f g := rfl
def oppM (c : Cat) : Cat := ⟨c.ob, c.t, c.s, c.e, rowsTo (fun f => tabTo (fun g => c.th g f) c.s.length) c.s.length⟩
noncomputable def fOppositeCategory (c : Cat) : Cat × Int := if fIsCategory c = true then (oppM c, 0) else (cat0, 1)
theorem opp_f {c : Cat} (h : fIsCategory c = false) : fOppositeCategory c = (cat0, 1) := if_neg (by rw [h]; decide)
theorem opp_t {c : Cat} (h : fIsCategory c = true) : fOppositeCategory c = (oppM c, 0) := if_pos h
def entO (c : Cat) (f : Nat) : Ent Int := (at0 c.t f, at0 c.s f, (f : Int))
theorem entO_def (c : Cat) (k : Nat) : (at0 c.t (k : Int), at0 c.s (k : Int), (k : Int)) = entO c k := rfl
theorem entO_inj (c : Cat) (i j : Nat) (h : entO c i = entO c j) : i = j := by simp only [entO, Prod.mk.injEq] at h; omega

end Go.Proofs.Ytgkfampgofjkfaa
