
/- A shape in memory, entry by entry. -/
import Derived.Test.YtakifeiemcldlaaAcc
namespace Go.Proofs.Ytakifeiemcldlaa
open Go.RowKit

/-- Where the entries of a shape that has an arrow lie. -/
structure View (w : World) (c : Cat) (b1 o1 b2 o2 b3 o3 b4 o4 : Nat) (R : Int → Nat × Nat × Nat) : Prop where
  l1 : b1 < w.heap.size
  l2 : b2 < w.heap.size
  l3 : b3 < w.heap.size
  l4 : b4 < w.heap.size
  s : ∀ f : Int, 0 ≤ f → f < c.s.length → w.cell? ⟨b1, o1 + f.toNat, none⟩ = some (.int .i64 (at0 c.s f))
  t : ∀ f : Int, 0 ≤ f → f < c.s.length → w.cell? ⟨b2, o2 + f.toNat, none⟩ = some (.int .i64 (at0 c.t f))
  e : ∀ x : Int, 0 ≤ x → x < c.ob → w.cell? ⟨b3, o3 + x.toNat, none⟩ = some (.int .i64 (at0 c.e x))
  m : ∀ f : Int, 0 ≤ f → f < c.s.length → (R f).1 < w.heap.size ∧ w.cell? ⟨b4, o4 + f.toNat, none⟩ = some (.slice (some ⟨(R f).1, (R f).2.1, none⟩) c.s.length (R f).2.2)
  th : ∀ f g : Int, 0 ≤ f → f < c.s.length → 0 ≤ g → g < c.s.length → w.cell? ⟨(R f).1, (R f).2.1 + g.toNat, none⟩ = some (.int .i64 (c.th f g))

theorem view_below {w w' : World} {c : Cat} {b1 o1 b2 o2 b3 o3 b4 o4 : Nat} {R : Int → Nat × Nat × Nat} (hb : Below w.heap.size w w') (h : View w c b1 o1 b2 o2 b3 o3 b4 o4 R) : View w' c b1 o1 b2 o2 b3 o3 b4 o4 R where
  l1 := Nat.lt_of_lt_of_le h.l1 hb.size
  l2 := Nat.lt_of_lt_of_le h.l2 hb.size
  l3 := Nat.lt_of_lt_of_le h.l3 hb.size
  l4 := Nat.lt_of_lt_of_le h.l4 hb.size
  s f f0 f1 := (hb.cell (p := ⟨b1, _, none⟩) h.l1).trans (h.s f f0 f1)
  t f f0 f1 := (hb.cell (p := ⟨b2, _, none⟩) h.l2).trans (h.t f f0 f1)
  e f f0 f1 := (hb.cell (p := ⟨b3, _, none⟩) h.l3).trans (h.e f f0 f1)
  m f f0 f1 := ⟨Nat.lt_of_lt_of_le (h.m f f0 f1).1 hb.size, (hb.cell (p := ⟨b4, _, none⟩) h.l4).trans (h.m f f0 f1).2⟩
  th f g f0 f1 g0 g1 := (hb.cell (p := ⟨(R f).1, _, none⟩) (h.m f f0 f1).1).trans (h.th f g f0 f1 g0 g1)

theorem RdC.view {w : World} {v : Value} {c : Cat} (h : RdC w v c) (hS : ShapeP c) (hn : 0 < c.s.length) :
    ∃ (b1 o1 b2 o2 b3 o3 b4 o4 k1 k2 k3 k4 : Nat) (R : Int → Nat × Nat × Nat), v = .agg #[.int .i64 c.ob, .slice (some ⟨b1, o1, none⟩) c.s.length k1, .slice (some ⟨b2, o2, none⟩) c.t.length k2, .slice (some ⟨b3, o3, none⟩) c.e.length k3, .slice (some ⟨b4, o4, none⟩) c.m.length k4] ∧
      View w c b1 o1 b2 o2 b3 o3 b4 o4 R := by
  obtain ⟨x1, x2, x3, x4, k1, k2, k3, k4, rfl, hs, ht, he, hm, _⟩ := h.lists
  have hs0 := hS.src (f := 0) hn
  have hel := hS.el; have htl := hS.tl; have hml := hS.ml
  obtain ⟨a1, _, e1, l1, hc1⟩ := hs
  obtain ⟨a2, _, e2, l2, hc2⟩ := ht
  obtain ⟨a3, _, e3, l3, hc3⟩ := he
  obtain ⟨a4, _, e4, l4, hc4⟩ := hm
  simp only [Value.slice.injEq] at e1 e2 e3 e4
  obtain ⟨rfl, _⟩ := e1; obtain ⟨rfl, _⟩ := e2; obtain ⟨rfl, _⟩ := e3; obtain ⟨rfl, _⟩ := e4
  obtain ⟨b1, o1, rfl, hb1, d1⟩ := hc1 0 hn
  obtain ⟨b2, o2, rfl, hb2, d2⟩ := hc2 0 (by omega)
  obtain ⟨b3, o3, rfl, hb3, d3⟩ := hc3 0 (by omega)
  obtain ⟨b4, o4, rfl, hb4, d4⟩ := hc4 0 (by omega)
  have hrow : ∀ f : Int, ∃ r : Nat × Nat × Nat, 0 ≤ f → f < c.s.length → r.1 < w.heap.size ∧ w.cell? ⟨b4, o4 + f.toNat, none⟩ = some (.slice (some ⟨r.1, r.2.1, none⟩) c.s.length r.2.2) ∧
      ∀ g : Int, 0 ≤ g → g < c.s.length → w.cell? ⟨r.1, r.2.1 + g.toNat, none⟩ = some (.int .i64 (c.th f g)) := by
    intro f
    by_cases hf : 0 ≤ f ∧ f < c.s.length
    · obtain ⟨u, hu1, hu2⟩ := d4 f.toNat (by omega)
      have hlen := hS.rl f.toNat (by omega)
      obtain ⟨a5, c5, rfl, _, hc5⟩ := hu2
      obtain ⟨b5, o5, rfl, hb5, d5⟩ := hc5 0 (by omega)
      rw [hlen] at hu1
      exact ⟨(b5, o5, c5), fun _ _ => ⟨hb5, hu1, fun g g0 g1 => d5 g.toNat (by omega)⟩⟩
    · exact ⟨(0, 0, 0), fun h0 h1 => absurd ⟨h0, h1⟩ hf⟩
  refine ⟨b1, o1, b2, o2, b3, o3, b4, o4, k1, k2, k3, k4, fun f => Classical.choose (hrow f), rfl, ⟨hb1, hb2, hb3, hb4, fun f f0 f1 => d1 f.toNat (by omega), fun f f0 f1 => d2 f.toNat (by omega), fun x x0 x1 => d3 x.toNat (by omega), fun f f0 f1 => ?_, fun f g f0 f1 g0 g1 => ?_⟩⟩
  · exact ⟨(Classical.choose_spec (hrow f) f0 f1).1, (Classical.choose_spec (hrow f) f0 f1).2.1⟩
  · exact (Classical.choose_spec (hrow f) f0 f1).2.2 g g0 g1

theorem RdC.view' {w : World} {n : Int} {x1 x2 x3 x4 : Option Addr} {n1 n2 n3 n4 k1 k2 k3 k4 : Nat} {c : Cat} (h : RdC w (.agg #[.int .i64 n, .slice x1 n1 k1, .slice x2 n2 k2, .slice x3 n3 k3, .slice x4 n4 k4]) c) (hS : ShapeP c) (hn : 0 < c.s.length) :
    ∃ (b1 o1 b2 o2 b3 o3 b4 o4 : Nat) (R : Int → Nat × Nat × Nat), x1 = some ⟨b1, o1, none⟩ ∧ x2 = some ⟨b2, o2, none⟩ ∧ x3 = some ⟨b3, o3, none⟩ ∧ x4 = some ⟨b4, o4, none⟩ ∧ View w c b1 o1 b2 o2 b3 o3 b4 o4 R := by
  obtain ⟨b1, o1, b2, o2, b3, o3, b4, o4, _, _, _, _, R, hv, V⟩ := h.view hS hn
  simp only [Value.agg.injEq, Array.mk.injEq, List.cons.injEq, Value.int.injEq, Value.slice.injEq, true_and, and_true] at hv
  exact ⟨b1, o1, b2, o2, b3, o3, b4, o4, R, hv.2.1.1, hv.2.2.1.1, hv.2.2.2.1.1, hv.2.2.2.2.1, V⟩

end Go.Proofs.Ytakifeiemcldlaa
