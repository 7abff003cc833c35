
/- What a shape gives at an arrow. -/
import Derived.Test.YtakifeiemcldlaaAcc
namespace Go.Proofs.Ytakifeiemcldlaa
open Go.RowKit

theorem row2_lenS {c : Cat} (hr : ∀ j, j < c.m.length → (c.m.getD j []).length = c.s.length) {f : Int} (f0 : 0 ≤ f) (f1 : f < c.m.length) : (row2 c.m f).length = c.s.length := hr f.toNat (by omega)

/-- What a shape gives at an arrow, as the walk wants it. -/
structure ArrP (c : Cat) (f : Int) : Prop where
  f0 : 0 ≤ f
  fs : f < c.s.length
  ft : f < c.t.length
  fm : f < c.m.length
  s0 : 0 ≤ at0 c.s f
  s1 : at0 c.s f < c.e.length
  t0 : 0 ≤ at0 c.t f
  t1 : at0 c.t f < c.e.length
  row : (row2 c.m f).length = c.s.length

theorem arrP {c : Cat} (h : ShapeP c) {f : Int} (f0 : 0 ≤ f) (f1 : f < c.s.length) : ArrP c f := by
  obtain ⟨k, rfl⟩ := Int.eq_ofNat_of_zero_le f0
  have hk : k < c.s.length := by omega
  have := h.src hk; have := h.tgt hk; have := h.el; have := h.tl; have := h.ml
  exact ⟨by omega, by omega, by omega, by omega, by omega, by omega, by omega, by omega, row2_lenS h.rl (by omega) (by omega)⟩

end Go.Proofs.Ytakifeiemcldlaa
