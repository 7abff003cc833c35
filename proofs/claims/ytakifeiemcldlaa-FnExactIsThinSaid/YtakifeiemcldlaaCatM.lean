
/- Categories in memory, and what the laws' own helpers do with them. -/
import Derived.Test.YtakifeiemcldlaaFoot
import Derived.Test.YtakifeiemcldlaaCat
import Derived.Test.YtakifeiemcldlaaPairs
namespace Go.Proofs.Ytakifeiemcldlaa
open Go.RowKit

/-- v reads in w as the category c. -/
def RdC (w : World) (v : Value) (c : Cat) : Prop :=
  ∃ vs vt ve vm, v = .agg #[.int .i64 c.ob, vs, vt, ve, vm] ∧ Rd w vs c.s ∧ Rd w vt c.t ∧ Rd w ve c.e ∧ Rd2 w vm c.m
def OwnC (v : Value) (c : Cat) (w : World) (S : Nat → Prop) : Prop :=
  ∃ vs vt ve vm, v = .agg #[.int .i64 c.ob, vs, vt, ve, vm] ∧ Sep (Own1 vs c.s) (Sep (Own1 vt c.t) (Sep (Own1 ve c.e) (Own2 vm c.m))) w S
/-- As RdC, of what came in: of any length. -/
def InC (w : World) (v : Value) (c : Cat) : Prop :=
  ∃ vs vt ve vm, v = .agg #[.int .i64 c.ob, vs, vt, ve, vm] ∧ In w vs c.s ∧ In w vt c.t ∧ In w ve c.e ∧ In2 w vm c.m

theorem ownC_loc (v : Value) (c : Cat) : Loc (OwnC v c) where
  keep hs ha h := by
    obtain ⟨vs, vt, ve, vm, hv, h⟩ := h
    exact ⟨vs, vt, ve, vm, hv, (sep_loc (own1_loc _ _) (sep_loc (own1_loc _ _) (sep_loc (own1_loc _ _) (own2_loc _ _)))).keep hs ha h⟩
theorem OwnC.rd {w : World} {S : Nat → Prop} {v : Value} {c : Cat} (h : OwnC v c w S) : RdC w v c := by
  obtain ⟨vs, vt, ve, vm, hv, S1, S2, _, _, _, h1, S3, S4, _, _, _, h2, S5, S6, _, _, _, h3, h4⟩ := h
  exact ⟨vs, vt, ve, vm, hv, h1.rd, h2.rd, h3.rd, h4.rd⟩
theorem rdC_below {w w' : World} {v : Value} {c : Cat} (hb : Below w.heap.size w w') (h : RdC w v c) : RdC w' v c := by
  obtain ⟨vs, vt, ve, vm, hv, h1, h2, h3, h4⟩ := h
  exact ⟨vs, vt, ve, vm, hv, rd_below hb h1, rd_below hb h2, rd_below hb h3, rd2_below hb h4⟩

/-- How many numbers a category holds: what the laws' guard counts, and what their marks count. -/
def szM (c : Cat) : Nat := c.s.length + c.t.length + c.e.length + (c.m.length + offR c.m c.m.length)
def mzC (c : Cat) : Nat := c.s.length + c.t.length + c.e.length + offR c.m c.m.length
def mkC (k0 : Int) (c : Cat) : Cat :=
  ⟨c.ob, upTo k0 c.s.length, upTo (k0 + c.s.length) c.t.length, upTo (k0 + c.s.length + c.t.length) c.e.length, mk2 (k0 + c.s.length + c.t.length + c.e.length) c.m c.m.length⟩

theorem InC.rd {w : World} {v : Value} {c : Cat} (h : InC w v c) (hl : szM c ≤ 1048576) : RdC w v c := by
  obtain ⟨vs, vt, ve, vm, hv, h1, h2, h3, h4⟩ := h
  unfold szM at hl
  exact ⟨vs, vt, ve, vm, hv, h1.rd (by omega), h2.rd (by omega), h3.rd (by omega), h4.rd (by omega)⟩

theorem rd_form {w : World} {v : Value} {xs : List Int} (h : Rd w v xs) : ∃ (a : Option Addr) (cap : Nat), v = .slice a xs.length cap := by
  obtain ⟨a, cap, hv, _⟩ := h
  exact ⟨a, cap, hv⟩
theorem rd2_form {w : World} {v : Value} {xs : List (List Int)} (h : Rd2 w v xs) : ∃ (a : Option Addr) (cap : Nat), v = .slice a xs.length cap := by
  obtain ⟨a, cap, hv, _⟩ := h
  exact ⟨a, cap, hv⟩
theorem RdC.form {w : World} {v : Value} {c : Cat} (h : RdC w v c) : ∃ (x1 x2 x3 x4 : Option Addr) (k1 k2 k3 k4 : Nat), v = .agg #[.int .i64 c.ob, .slice x1 c.s.length k1, .slice x2 c.t.length k2, .slice x3 c.e.length k3, .slice x4 c.m.length k4] := by
  obtain ⟨vs, vt, ve, vm, rfl, h1, h2, h3, h4⟩ := h
  obtain ⟨a1, c1, rfl⟩ := rd_form h1
  obtain ⟨a2, c2, rfl⟩ := rd_form h2
  obtain ⟨a3, c3, rfl⟩ := rd_form h3
  obtain ⟨a4, c4, rfl⟩ := rd2_form h4
  exact ⟨a1, a2, a3, a4, c1, c2, c3, c4, rfl⟩

/-- The four lists of a category, read. -/
theorem RdC.parts {w : World} {a b d e : Value} {n : Int} {c : Cat} (h : RdC w (.agg #[.int .i64 n, a, b, d, e]) c) : n = c.ob ∧ Rd w a c.s ∧ Rd w b c.t ∧ Rd w d c.e ∧ Rd2 w e c.m := by
  obtain ⟨vs, vt, ve, vm, hv, h1, h2, h3, h4⟩ := h
  simp only [Value.agg.injEq, Array.mk.injEq, List.cons.injEq, Value.int.injEq, true_and, and_true] at hv
  obtain ⟨rfl, rfl, rfl, rfl, rfl⟩ := hv
  exact ⟨rfl, h1, h2, h3, h4⟩

theorem sep_mk {A B : World → (Nat → Prop) → Prop} {w : World} {lo a b : Nat} (ha : A w (span a b)) (hb : B w (fun k => b ≤ k)) (h1 : lo ≤ a) (h2 : lo ≤ b) : Sep A B w (fun k => lo ≤ k) :=
  ⟨span a b, fun k => b ≤ k, fun k h => Nat.le_trans h1 h.1, fun k h => Nat.le_trans h2 h, fun k h h' => by unfold span at h; omega, ha, hb⟩

def RetC (W : World) (c : Cat) (e : Ending) (w' : World) : Prop := ∃ v, e = .returned v ∧ OwnC v c w' (fun k => W.heap.size ≤ k) ∧ Below W.heap.size W w'
def RetCI (W : World) (c : Cat) (n : Int) (e : Ending) (w' : World) : Prop := ∃ v, e = .returned (.tuple #[v, .int .i64 n]) ∧ OwnC v c w' (fun k => W.heap.size ≤ k) ∧ Below W.heap.size W w'

end Go.Proofs.Ytakifeiemcldlaa
