
/- The program's small methods of a category: its number of arrows, a composite, the ends of an arrow. -/
import Derived.Test.YtakifeiemcldlaaLawC2
namespace Go.Proofs.Ytakifeiemcldlaa
open Go.RowKit

theorem rd_at {w : World} {a : Option Addr} {n cap : Nat} {xs : List Int} (h : Rd w (.slice a n cap) xs) {x : Int} (h0 : 0 ≤ x) (h1 : x < xs.length) :
    ∃ b off, a = some ⟨b, off, none⟩ ∧ b < w.heap.size ∧ w.cell? ⟨b, off + x.toNat, none⟩ = some (.int .i64 (at0 xs x)) := by
  obtain ⟨a', cap', hv, _, hc⟩ := h
  simp only [Value.slice.injEq] at hv
  obtain ⟨rfl, _, _⟩ := hv
  obtain ⟨b, off, ha, hb, hcell⟩ := hc x.toNat (by omega)
  exact ⟨b, off, ha, hb, hcell x.toNat (by omega)⟩
theorem rd2_at {w : World} {a : Option Addr} {n cap : Nat} {rows : List (List Int)} (h : Rd2 w (.slice a n cap) rows) {x : Int} (h0 : 0 ≤ x) (h1 : x < rows.length) :
    ∃ b off a' cap', a = some ⟨b, off, none⟩ ∧ b < w.heap.size ∧ w.cell? ⟨b, off + x.toNat, none⟩ = some (.slice a' (row2 rows x).length cap') ∧ Rd w (.slice a' (row2 rows x).length cap') (row2 rows x) := by
  obtain ⟨a', cap', hv, _, hc⟩ := h
  simp only [Value.slice.injEq] at hv
  obtain ⟨rfl, _, _⟩ := hv
  obtain ⟨b, off, ha, hb, hcell⟩ := hc x.toNat (by omega)
  obtain ⟨u, h2, h3⟩ := hcell x.toNat (by omega)
  obtain ⟨a2, cap2, rfl⟩ := rd_form h3
  exact ⟨b, off, a2, cap2, ha, hb, h2, h3⟩

/-- The lists of a category that is read, with their lengths as the walk has them. -/
theorem RdC.lists {w : World} {v : Value} {c : Cat} (h : RdC w v c) : ∃ (x1 x2 x3 x4 : Option Addr) (k1 k2 k3 k4 : Nat), v = .agg #[.int .i64 c.ob, .slice x1 c.s.length k1, .slice x2 c.t.length k2, .slice x3 c.e.length k3, .slice x4 c.m.length k4] ∧
    Rd w (.slice x1 c.s.length k1) c.s ∧ Rd w (.slice x2 c.t.length k2) c.t ∧ Rd w (.slice x3 c.e.length k3) c.e ∧ Rd2 w (.slice x4 c.m.length k4) c.m ∧ c.s.length ≤ 17592186044415 ∧ c.t.length ≤ 17592186044415 ∧ c.e.length ≤ 17592186044415 ∧ c.m.length ≤ 5000000000000 := by
  obtain ⟨vs, vt, ve, vm, rfl, h1, h2, h3, h4⟩ := h
  obtain ⟨a1, c1, rfl⟩ := rd_form h1
  obtain ⟨a2, c2, rfl⟩ := rd_form h2
  obtain ⟨a3, c3, rfl⟩ := rd_form h3
  obtain ⟨a4, c4, rfl⟩ := rd2_form h4
  have l1 : c.s.length ≤ 17592186044415 := by obtain ⟨_, _, _, h, _⟩ := h1; exact h
  have l2 : c.t.length ≤ 17592186044415 := by obtain ⟨_, _, _, h, _⟩ := h2; exact h
  have l3 : c.e.length ≤ 17592186044415 := by obtain ⟨_, _, _, h, _⟩ := h3; exact h
  have l4 : c.m.length ≤ 5000000000000 := by obtain ⟨_, _, _, h, _⟩ := h4; exact h
  exact ⟨a1, a2, a3, a4, c1, c2, c3, c4, rfl, h1, h2, h3, h4, l1, l2, l3, l4⟩

theorem arrows_any (w : World) (v : Value) (c : Cat) (h : RdC w v c) : Calls Try.prog 81 #[v] w (RetI w c.s.length) := by
  obtain ⟨x1, x2, x3, x4, k1, k2, k3, k4, rfl, h1, h2, h3, h4, l1, l2, l3, l4⟩ := h.lists
  clear h h1 h2 h3 h4
  go_enter Try.func81, Try.ntmps81
  go_wp2
  go_ret
  exact ⟨rfl, (Below.refl _ _).alloc (Nat.le_refl _) _⟩

theorem then_any (w : World) (v : Value) (c : Cat) (f g : Int) (h : RdC w v c) (f0 : 0 ≤ f) (f1 : f < c.m.length) (g0 : 0 ≤ g) (g1 : g < (row2 c.m f).length) :
    Calls Try.prog 65 #[v, .int .i64 f, .int .i64 g] w (RetI w (c.th f g)) := by
  obtain ⟨x1, x2, x3, x4, k1, k2, k3, k4, rfl, h1, h2, h3, h4, l1, l2, l3, l4⟩ := h.lists
  obtain ⟨b, off, a', cap', rfl, hb, hc, hr⟩ := rd2_at h4 f0 f1
  obtain ⟨b', off', rfl, hb', hc'⟩ := rd_at hr g0 g1
  unfold Cat.th
  clear h h1 h2 h3 h4 hr
  generalize at0 (row2 c.m f) g = z at hc' ⊢
  generalize (row2 c.m f).length = n at hc g1
  go_enter Try.func65, Try.ntmps65
  go_wp2
  go_ret
  exact ⟨rfl, (Below.refl _ _).alloc (Nat.le_refl _) _⟩

/-- A struct of two numbers that a call hands back. -/
def RetE (W : World) (x y : Int) (e : Ending) (w' : World) : Prop := e = .returned (.agg #[.int .i64 x, .int .i64 y]) ∧ Below W.heap.size W w'

set_option maxHeartbeats 800000 in
theorem ends_any (w : World) (v : Value) (c : Cat) (f : Int) (h : RdC w v c) (f0 : 0 ≤ f) (f1 : f < c.s.length) (f2 : f < c.t.length) :
    Calls Try.prog 87 #[v, .int .i64 f] w (RetE w (at0 c.s f) (at0 c.t f)) := by
  obtain ⟨x1, x2, x3, x4, k1, k2, k3, k4, rfl, h1, h2, h3, h4, l1, l2, l3, l4⟩ := h.lists
  obtain ⟨b, off, rfl, hb, hc⟩ := rd_at h1 f0 f1
  obtain ⟨b', off', rfl, hb', hc'⟩ := rd_at h2 f0 f2
  clear h h1 h2 h3 h4
  generalize at0 c.s f = y at hc ⊢
  generalize at0 c.t f = z at hc' ⊢
  go_enter Try.func87, Try.ntmps87
  go_wp2
  go_region
  go_wp2
  exact bodyPost_ret (v := .agg #[.int .i64 y, .int .i64 z]) (by simp [results, Try.results87, go_sem]) rfl ⟨rfl, (((Below.refl _ _).alloc (Nat.le_refl _) _).alloc (by simp) _).drew⟩

end Go.Proofs.Ytakifeiemcldlaa
