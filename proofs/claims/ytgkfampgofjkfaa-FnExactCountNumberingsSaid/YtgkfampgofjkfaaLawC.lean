
/- Categories in memory, and what the laws' own helpers do with them. | What the laws' own helpers do with a category. | Marks on a category, and how one that comes in is opened. -/
import Derived.Test.YtgkfampgofjkfaaRows2
import Derived.Test.YtgkfampgofjkfaaCat
import Derived.Test.YtgkfampgofjkfaaPairs
import Derived.Test.YtgkfampgofjkfaaBase
import Derived.Deep.RegionHeld3
import Derived.Lib.SmallJoins
set_option linter.unusedSimpArgs false
set_option linter.unusedVariables false
set_option linter.unusedSectionVars false
namespace Go.Proofs.Ytgkfampgofjkfaa
open Go.RowKit

/-- v reads in w as the category c. -/
def RdC (w : World) (v : Value) (c : Cat) : Prop :=
  ∃ vs vt ve vm, v = .agg #[.int .i64 c.ob, vs, vt, ve, vm] ∧ Rd w vs c.s ∧ Rd w vt c.t ∧ Rd w ve c.e ∧ Rd2 w vm c.m
def OwnC (v : Value) (c : Cat) (w : World) (S : Nat → Prop) : Prop :=
  ∃ vs vt ve vm, v = .agg #[.int .i64 c.ob, vs, vt, ve, vm] ∧ Sep (Own1 vs c.s) (Sep (Own1 vt c.t) (Sep (Own1 ve c.e) (Own2 vm c.m))) w S
/-- As RdC, of what came in: of any length. -/
def InC (w : World) (v : Value) (c : Cat) : Prop :=
  ∃ vs vt ve vm, v = .agg #[.int .i64 c.ob, vs, vt, ve, vm] ∧ In w vs c.s ∧ In w vt c.t ∧ In w ve c.e ∧ In2 w vm c.m

theorem ownC_loc (v : Value) (c : Cat) : Loc (OwnC v c) where
  keep hs ha h := by
    obtain ⟨vs, vt, ve, vm, hv, h⟩ := h
    exact ⟨vs, vt, ve, vm, hv, (sep_loc (own1_loc _ _) (sep_loc (own1_loc _ _) (sep_loc (own1_loc _ _) (own2_loc _ _)))).keep hs ha h⟩
theorem OwnC.rd {w : World} {S : Nat → Prop} {v : Value} {c : Cat} (h : OwnC v c w S) : RdC w v c := by
  obtain ⟨vs, vt, ve, vm, hv, S1, S2, _, _, _, h1, S3, S4, _, _, _, h2, S5, S6, _, _, _, h3, h4⟩ := h
  exact ⟨vs, vt, ve, vm, hv, h1.rd, h2.rd, h3.rd, h4.rd⟩
theorem rdC_below {w w' : World} {v : Value} {c : Cat} (hb : Below w.heap.size w w') (h : RdC w v c) : RdC w' v c := by
  obtain ⟨vs, vt, ve, vm, hv, h1, h2, h3, h4⟩ := h
  exact ⟨vs, vt, ve, vm, hv, rd_below hb h1, rd_below hb h2, rd_below hb h3, rd2_below hb h4⟩

/-- How many numbers a category holds: what the laws' guard counts, and what their marks count. -/
def szM (c : Cat) : Nat := c.s.length + c.t.length + c.e.length + (c.m.length + offR c.m c.m.length)
def mzC (c : Cat) : Nat := c.s.length + c.t.length + c.e.length + offR c.m c.m.length
def mkC (k0 : Int) (c : Cat) : Cat :=
  ⟨c.ob, upTo k0 c.s.length, upTo (k0 + c.s.length) c.t.length, upTo (k0 + c.s.length + c.t.length) c.e.length, mk2 (k0 + c.s.length + c.t.length + c.e.length) c.m c.m.length⟩

theorem InC.rd {w : World} {v : Value} {c : Cat} (h : InC w v c) (hl : szM c ≤ 1048576) : RdC w v c := by
  obtain ⟨vs, vt, ve, vm, hv, h1, h2, h3, h4⟩ := h
  unfold szM at hl
  exact ⟨vs, vt, ve, vm, hv, h1.rd (by omega), h2.rd (by omega), h3.rd (by omega), h4.rd (by omega)⟩

theorem rd_form {w : World} {v : Value} {xs : List Int} (h : Rd w v xs) : ∃ (a : Option Addr) (cap : Nat), v = .slice a xs.length cap := by
  obtain ⟨a, cap, hv, _⟩ := h
  exact ⟨a, cap, hv⟩
theorem rd2_form {w : World} {v : Value} {xs : List (List Int)} (h : Rd2 w v xs) : ∃ (a : Option Addr) (cap : Nat), v = .slice a xs.length cap := by
  obtain ⟨a, cap, hv, _⟩ := h
  exact ⟨a, cap, hv⟩
theorem RdC.form {w : World} {v : Value} {c : Cat} (h : RdC w v c) : ∃ (x1 x2 x3 x4 : Option Addr) (k1 k2 k3 k4 : Nat), v = .agg #[.int .i64 c.ob, .slice x1 c.s.length k1, .slice x2 c.t.length k2, .slice x3 c.e.length k3, .slice x4 c.m.length k4] := by
  obtain ⟨vs, vt, ve, vm, rfl, h1, h2, h3, h4⟩ := h
  obtain ⟨a1, c1, rfl⟩ := rd_form h1
  obtain ⟨a2, c2, rfl⟩ := rd_form h2
  obtain ⟨a3, c3, rfl⟩ := rd_form h3
  obtain ⟨a4, c4, rfl⟩ := rd2_form h4
  exact ⟨a1, a2, a3, a4, c1, c2, c3, c4, rfl⟩

/-- The four lists of a category, read. -/
theorem RdC.parts {w : World} {a b d e : Value} {n : Int} {c : Cat} (h : RdC w (.agg #[.int .i64 n, a, b, d, e]) c) : n = c.ob ∧ Rd w a c.s ∧ Rd w b c.t ∧ Rd w d c.e ∧ Rd2 w e c.m := by
  obtain ⟨vs, vt, ve, vm, hv, h1, h2, h3, h4⟩ := h
  simp only [Value.agg.injEq, Array.mk.injEq, List.cons.injEq, Value.int.injEq, true_and, and_true] at hv
  obtain ⟨rfl, rfl, rfl, rfl, rfl⟩ := hv
  exact ⟨rfl, h1, h2, h3, h4⟩

theorem sep_mk {A B : World → (Nat → Prop) → Prop} {w : World} {lo a b : Nat} (ha : A w (span a b)) (hb : B w (fun k => b ≤ k)) (h1 : lo ≤ a) (h2 : lo ≤ b) : Sep A B w (fun k => lo ≤ k) :=
  ⟨span a b, fun k => b ≤ k, fun k h => Nat.le_trans h1 h.1, fun k h => Nat.le_trans h2 h, fun k h h' => by unfold span at h; omega, ha, hb⟩

def RetC (W : World) (c : Cat) (e : Ending) (w' : World) : Prop := ∃ v, e = .returned v ∧ OwnC v c w' (fun k => W.heap.size ≤ k) ∧ Below W.heap.size W w'
def RetCI (W : World) (c : Cat) (n : Int) (e : Ending) (w' : World) : Prop := ∃ v, e = .returned (.tuple #[v, .int .i64 n]) ∧ OwnC v c w' (fun k => W.heap.size ≤ k) ∧ Below W.heap.size W w'

end Go.Proofs.Ytgkfampgofjkfaa

namespace Go.Proofs.Ytgkfampgofjkfaa
open Go.RowKit

/-- A block that is known whole. -/
def Bx (w : World) (B : Nat) (t : TypeId) (cs : List Value) : Prop := w.heap[B]? = some (.cells cs.toArray t (0, 0))
theorem bx_below {w w' : World} {B : Nat} {t : TypeId} {cs : List Value} (hb : Below w.heap.size w w') (h : Bx w B t cs) : Bx w' B t cs := by
  unfold Bx at h ⊢
  rw [hb.block B (Array.getElem?_eq_some_iff.1 h).1]; exact h
theorem bx_lt {w : World} {B : Nat} {t : TypeId} {cs : List Value} (h : Bx w B t cs) : B < w.heap.size := (Array.getElem?_eq_some_iff.1 h).1
theorem bx_cell {w : World} {B : Nat} {t : TypeId} {cs : List Value} (h : Bx w B t cs) (i : Nat) {v : Value} (hv : cs[i]? = some v) : w.cell? ⟨B, i, none⟩ = some v := by
  rw [cell_of_row w B i _ _ (0, 0) h]; simpa using hv
theorem bx_frozen {w : World} {B : Nat} {t : TypeId} {cs : List Value} (h : Bx w B t cs) (i : Nat) : w.frozen? ⟨B, i, none⟩ = false := frozen_of_row w B i _ _ h
theorem bx_set {w : World} {B : Nat} {t : TypeId} {cs : List Value} (h : Bx w B t cs) (i : Nat) (v : Value) : Bx (w.setCell ⟨B, i, none⟩ v) B t (cs.set i v) := by
  have := heap_setCell_same w B i _ _ v h
  unfold Bx
  rw [this]; simp
theorem bx_other {w : World} {B A : Nat} {t : TypeId} {cs : List Value} (h : Bx w B t cs) (i : Nat) (v : Value) (hne : A ≠ B) : Bx (w.setCell ⟨A, i, none⟩ v) B t cs := by
  unfold Bx
  rw [heap_setCell_other w ⟨A, i, none⟩ B v (fun e => hne e.symm)]; exact h

theorem bx_new (w : World) (t : TypeId) (cs : List Value) : Bx (w.alloc (.cells cs.toArray t)) w.heap.size t cs := by
  unfold Bx; exact heap_alloc_new w _
theorem bx_alloc {w : World} {B : Nat} {t : TypeId} {cs : List Value} (h : Bx w B t cs) (o : Obj) : Bx (w.alloc o) B t cs := bx_below ((Below.refl _ _).alloc (Nat.le_refl _) o) h
theorem bx_at {w : World} {B B' : Nat} {t : TypeId} {cs : List Value} (h : Bx w B t cs) (e : B = B') : Bx w B' t cs := by rw [← e]; exact h

theorem agree_set {w : World} {B i : Nat} {v : Value} {S : Nat → Prop} (h : ¬ S B) : Agree S w (w.setCell ⟨B, i, none⟩ v) := fun k _ hs => heap_setCell_other w ⟨B, i, none⟩ k v (fun e => h (by have e' : k = B := e; rw [← e']; exact hs))

theorem frS_set {w : World} {B i : Nat} {v : Value} {S : Nat → Prop} (h : S B) : FrS S w (w.setCell ⟨B, i, none⟩ v) :=
  ⟨rfl, rfl, rfl, by simp, fun k _ hk => heap_setCell_other w ⟨B, i, none⟩ k v (fun e => hk (by rw [e]; exact h))⟩

def nilV : Value := .slice none 0 0

set_option maxHeartbeats 800000 in
set_option maxRecDepth 100000 in
theorem toC_any (w : World) (v : Value) (c : Cat) (h : RdC w v c) :
    Calls Try.prog 10 #[v] w (RetC w c) := by
  obtain ⟨vs, vt, ve, vm, rfl, h1, h2, h3, h4⟩ := h
  obtain ⟨x1, k1, rfl⟩ := rd_form h1
  obtain ⟨x2, k2, rfl⟩ := rd_form h2
  obtain ⟨x3, k3, rfl⟩ := rd_form h3
  obtain ⟨x4, k4, rfl⟩ := rd2_form h4
  have H1 := Lib.hid h1; have H2 := Lib.hid h2; have H3 := Lib.hid h3; have H4 := Lib.hid h4
  clear h1 h2 h3 h4
  go_enter Try.func10, Try.ntmps10
  go_wp2_with fail
  generalize hW : World.alloc _ _ = W
  have A0 : Bx W w.heap.size 25 [.int .i64 c.ob, .slice x1 c.s.length k1, .slice x2 c.t.length k2, .slice x3 c.e.length k3, .slice x4 c.m.length k4] := by rw [← hW]; exact bx_alloc (bx_alloc (bx_new _ _ _) _) _
  have A2 : Bx W (w.heap.size + 1 + 1) 27 [.int .i64 c.ob, .slice none 0 0, .slice none 0 0, .slice none 0 0, .slice none 0 0] := by rw [← hW]; exact bx_at (bx_new _ _ _) (by simp)
  have A1 : Bx W (w.heap.size + 1) 27 [.int .i64 0, .slice none 0 0, .slice none 0 0, .slice none 0 0, .slice none 0 0] := by rw [← hW]; exact bx_alloc (bx_at (bx_new _ _ _) (by simp)) _
  have hb : Below w.heap.size w W := by rw [← hW]; exact (((Below.refl _ _).alloc (Nat.le_refl _) _).alloc (by simp) _).alloc (by simp; omega) _
  have zW : W.heap.size = w.heap.size + 3 := by rw [← hW]; simp
  clear hW
  refine (to_any _ _ c.s (rd_below hb H1.out)).mono ?_; rintro e1 u1 ⟨y1, rfl, s1, hn1⟩
  replace A0 := bx_below hn1 A0
  replace A1 := bx_below hn1 A1
  replace A2 := bx_below hn1 A2
  replace s1 := (own1_loc _ _).span (own1_of s1)
  obtain ⟨p1, q1, rfl⟩ := rd_form s1.rd
  have z1 := hn1.size
  replace hb := hb.trans (hn1.mono hb.size)
  clear hn1
  have S1 := Lib.hid s1; have X0 := Lib.hid A0; have X1 := Lib.hid A1; have X2 := Lib.hid A2; clear s1 A0 A1 A2
  have cc := bx_cell X0.out 2 rfl
  have cd := bx_cell X2.out 1 rfl
  have ce := bx_frozen X2.out 1
  go_wp2_with fail
  generalize hW : World.setCell _ _ _ = W1
  have A0 := bx_other (A := w.heap.size + 1 + 1) X0.out 1 (.slice p1 c.s.length q1) (by omega)
  rw [hW] at A0
  have A1 := bx_other (A := w.heap.size + 1 + 1) X1.out 1 (.slice p1 c.s.length q1) (by omega)
  rw [hW] at A1
  have A2 := bx_set X2.out 1 (.slice p1 c.s.length q1)
  rw [hW] at A2
  replace hb : Below w.heap.size w W1 := by rw [← hW]; exact hb.setCell (by simp; omega) _
  have T1 := (own1_loc _ _).keep (w' := W1) (fun _ _ hs => hs) (by rw [← hW]; exact agree_set (by unfold span; omega)) S1.out
  have zz : W1.heap.size = u1.heap.size := by rw [← hW]; simp
  clear hW cc cd ce X0 X1 X2
  clear S1; have S1 := Lib.hid T1; clear T1
  have X0 := Lib.hid A0; have X1 := Lib.hid A1; have X2 := Lib.hid A2; clear A0 A1 A2
  refine (to_any _ _ c.t (rd_below hb H2.out)).mono ?_; rintro e2 u2 ⟨y2, rfl, s2, hn2⟩
  have A0 := bx_below hn2 X0.out
  have A1 := bx_below hn2 X1.out
  have A2 := bx_below hn2 X2.out
  replace s2 := (own1_loc _ _).span (own1_of s2)
  obtain ⟨p2, q2, rfl⟩ := rd_form s2.rd
  have z2 := hn2.size
  have T1 := (own1_loc _ _).below hn2 S1.out
  replace hb := hb.trans (hn2.mono hb.size)
  clear hn2
  clear S1; have S1 := Lib.hid T1; clear T1
  clear X0 X1 X2
  have S2 := Lib.hid s2; have X0 := Lib.hid A0; have X1 := Lib.hid A1; have X2 := Lib.hid A2; clear s2 A0 A1 A2
  have cc := bx_cell X0.out 3 rfl
  have cd := bx_cell X2.out 2 rfl
  have ce := bx_frozen X2.out 2
  go_wp2_with fail
  generalize hW : World.setCell _ _ _ = W2
  have A0 := bx_other (A := w.heap.size + 1 + 1) X0.out 2 (.slice p2 c.t.length q2) (by omega)
  rw [hW] at A0
  have A1 := bx_other (A := w.heap.size + 1 + 1) X1.out 2 (.slice p2 c.t.length q2) (by omega)
  rw [hW] at A1
  have A2 := bx_set X2.out 2 (.slice p2 c.t.length q2)
  rw [hW] at A2
  replace hb : Below w.heap.size w W2 := by rw [← hW]; exact hb.setCell (by simp; omega) _
  have T1 := (own1_loc _ _).keep (w' := W2) (fun _ _ hs => hs) (by rw [← hW]; exact agree_set (by unfold span; omega)) S1.out
  have T2 := (own1_loc _ _).keep (w' := W2) (fun _ _ hs => hs) (by rw [← hW]; exact agree_set (by unfold span; omega)) S2.out
  have zz : W2.heap.size = u2.heap.size := by rw [← hW]; simp
  clear hW cc cd ce X0 X1 X2
  clear S1; have S1 := Lib.hid T1; clear T1
  clear S2; have S2 := Lib.hid T2; clear T2
  have X0 := Lib.hid A0; have X1 := Lib.hid A1; have X2 := Lib.hid A2; clear A0 A1 A2
  refine (to_any _ _ c.e (rd_below hb H3.out)).mono ?_; rintro e3 u3 ⟨y3, rfl, s3, hn3⟩
  have A0 := bx_below hn3 X0.out
  have A1 := bx_below hn3 X1.out
  have A2 := bx_below hn3 X2.out
  replace s3 := (own1_loc _ _).span (own1_of s3)
  obtain ⟨p3, q3, rfl⟩ := rd_form s3.rd
  have z3 := hn3.size
  have T1 := (own1_loc _ _).below hn3 S1.out
  have T2 := (own1_loc _ _).below hn3 S2.out
  replace hb := hb.trans (hn3.mono hb.size)
  clear hn3
  clear S1; have S1 := Lib.hid T1; clear T1
  clear S2; have S2 := Lib.hid T2; clear T2
  clear X0 X1 X2
  have S3 := Lib.hid s3; have X0 := Lib.hid A0; have X1 := Lib.hid A1; have X2 := Lib.hid A2; clear s3 A0 A1 A2
  have cc := bx_cell X0.out 4 rfl
  have cd := bx_cell X2.out 3 rfl
  have ce := bx_frozen X2.out 3
  go_wp2_with fail
  generalize hW : World.setCell _ _ _ = W3
  have A0 := bx_other (A := w.heap.size + 1 + 1) X0.out 3 (.slice p3 c.e.length q3) (by omega)
  rw [hW] at A0
  have A1 := bx_other (A := w.heap.size + 1 + 1) X1.out 3 (.slice p3 c.e.length q3) (by omega)
  rw [hW] at A1
  have A2 := bx_set X2.out 3 (.slice p3 c.e.length q3)
  rw [hW] at A2
  replace hb : Below w.heap.size w W3 := by rw [← hW]; exact hb.setCell (by simp; omega) _
  have T1 := (own1_loc _ _).keep (w' := W3) (fun _ _ hs => hs) (by rw [← hW]; exact agree_set (by unfold span; omega)) S1.out
  have T2 := (own1_loc _ _).keep (w' := W3) (fun _ _ hs => hs) (by rw [← hW]; exact agree_set (by unfold span; omega)) S2.out
  have T3 := (own1_loc _ _).keep (w' := W3) (fun _ _ hs => hs) (by rw [← hW]; exact agree_set (by unfold span; omega)) S3.out
  have zz : W3.heap.size = u3.heap.size := by rw [← hW]; simp
  clear hW cc cd ce X0 X1 X2
  clear S1; have S1 := Lib.hid T1; clear T1
  clear S2; have S2 := Lib.hid T2; clear T2
  clear S3; have S3 := Lib.hid T3; clear T3
  have X0 := Lib.hid A0; have X1 := Lib.hid A1; have X2 := Lib.hid A2; clear A0 A1 A2
  refine (to2_any _ _ c.m (rd2_below hb H4.out)).mono ?_; rintro e4 u4 ⟨y4, rfl, s4, hn4⟩
  have A0 := bx_below hn4 X0.out
  have A1 := bx_below hn4 X1.out
  have A2 := bx_below hn4 X2.out
  replace s4 := (own2_loc _ _).span (own2_of s4)
  obtain ⟨p4, q4, rfl⟩ := rd2_form s4.rd
  have z4 := hn4.size
  have T1 := (own1_loc _ _).below hn4 S1.out
  have T2 := (own1_loc _ _).below hn4 S2.out
  have T3 := (own1_loc _ _).below hn4 S3.out
  replace hb := hb.trans (hn4.mono hb.size)
  clear hn4
  clear S1; have S1 := Lib.hid T1; clear T1
  clear S2; have S2 := Lib.hid T2; clear T2
  clear S3; have S3 := Lib.hid T3; clear T3
  clear X0 X1 X2
  have S4 := Lib.hid s4; have X0 := Lib.hid A0; have X1 := Lib.hid A1; have X2 := Lib.hid A2; clear s4 A0 A1 A2
  have c0 := bx_cell X2.out 0 rfl
  have c1 := bx_cell X2.out 1 rfl
  have c2 := bx_cell X2.out 2 rfl
  have c3 := bx_cell X2.out 3 rfl
  have c4 := bx_cell X2.out 4 rfl
  have cf := bx_frozen X2.out 4
  have d0 := bx_cell X1.out 0 rfl
  have d1 := bx_cell X1.out 1 rfl
  have d2 := bx_cell X1.out 2 rfl
  have d3 := bx_cell X1.out 3 rfl
  have d4 := bx_cell X1.out 4 rfl
  have f0 := bx_frozen X1.out 0
  have f1 := bx_frozen X1.out 1
  have f2 := bx_frozen X1.out 2
  have f3 := bx_frozen X1.out 3
  have f4 := bx_frozen X1.out 4
  have g0 := bx_frozen X2.out 4
  have g1 := bx_set X2.out 4 (.slice p4 c.m.length q4)
  have g2 := bx_cell g1 0 rfl
  go_wp2
  generalize hW : World.setCell _ _ _ = WF
  have fr := (((((((FrS.refl (fun k => k < w.heap.size + 3) u4).trans (frS_set (B := w.heap.size + 1 + 1) (i := 4) (v := .slice p4 c.m.length q4) (by omega))).trans (frS_set (B := w.heap.size + 1) (i := 0) (v := .int .i64 c.ob) (by omega))).trans (frS_set (B := w.heap.size + 1) (i := 1) (v := .slice p1 c.s.length q1) (by omega))).trans (frS_set (B := w.heap.size + 1) (i := 2) (v := .slice p2 c.t.length q2) (by omega))).trans (frS_set (B := w.heap.size + 1) (i := 3) (v := .slice p3 c.e.length q3) (by omega))).trans (frS_set (B := w.heap.size + 1) (i := 4) (v := .slice p4 c.m.length q4) (by omega)))
  have Y := bx_set (bx_set (bx_set (bx_set (bx_set (bx_other (A := w.heap.size + 1 + 1) X1.out 4 (.slice p4 c.m.length q4) (by omega)) 0 (.int .i64 c.ob)) 1 (.slice p1 c.s.length q1)) 2 (.slice p2 c.t.length q2)) 3 (.slice p3 c.e.length q3)) 4 (.slice p4 c.m.length q4)
  rw [hW] at fr Y
  have hbF : Below w.heap.size w WF := by
    rw [← hW]
    exact (((((hb.setCell (by simp; omega) _).setCell (by simp) _).setCell (by simp) _).setCell (by simp) _).setCell (by simp) _).setCell (by simp) _
  clear hW
  have T1 := (own1_loc _ _).keep (w' := WF) (fun _ _ hs => hs) (agree_frS fr fun k k1 k2 => by unfold span at k2; omega) S1.out
  have T2 := (own1_loc _ _).keep (w' := WF) (fun _ _ hs => hs) (agree_frS fr fun k k1 k2 => by unfold span at k2; omega) S2.out
  have T3 := (own1_loc _ _).keep (w' := WF) (fun _ _ hs => hs) (agree_frS fr fun k k1 k2 => by unfold span at k2; omega) S3.out
  have T4 := (own2_loc _ _).keep (w' := WF) (fun _ _ hs => hs) (agree_frS fr fun k k1 k2 => by unfold span at k2; omega) S4.out
  have e0 := bx_cell Y 0 rfl
  have e1 := bx_cell Y 1 rfl
  have e2 := bx_cell Y 2 rfl
  have e3 := bx_cell Y 3 rfl
  have e4 := bx_cell Y 4 rfl
  have hF : Hid (RetC w c (.returned (.agg #[.int .i64 c.ob, .slice p1 c.s.length q1, .slice p2 c.t.length q2, .slice p3 c.e.length q3, .slice p4 c.m.length q4])) WF) := by
    refine ⟨_, rfl, ⟨_, _, _, _, rfl, sep_mk (a := W.heap.size) (b := u1.heap.size) T1 ?_ (by omega) (by omega)⟩, hbF⟩
    refine sep_mk (a := W1.heap.size) (b := u2.heap.size) T2 ?_ (by omega) (by omega)
    refine sep_mk (a := W2.heap.size) (b := u3.heap.size) T3 ?_ (by omega) (by omega)
    exact (own2_loc _ _).keep (fun k _ hk => by unfold span at hk; omega) agree_refl T4
  clear T1 T2 T3 T4 S1 S2 S3 S4 X0 X1 X2 d0 d1 d2 d3 d4 f0 f1 f2 f3 f4 g0 g1 g2 fr Y
  exact bodyPost_ret (v := .agg #[.int .i64 c.ob, .slice p1 c.s.length q1, .slice p2 c.t.length q2, .slice p3 c.e.length q3, .slice p4 c.m.length q4]) (by simp [results, Try.results10, go_sem, e0, e1, e2, e3, e4]) rfl hF.out

theorem bx5 {w : World} {B : Nat} {t : TypeId} {a b d e f : Value} (h : Bx w B t [a, b, d, e, f]) :
    w.cell? ⟨B, 0, none⟩ = some a ∧ w.cell? ⟨B, 1, none⟩ = some b ∧ w.cell? ⟨B, 2, none⟩ = some d ∧ w.cell? ⟨B, 3, none⟩ = some e ∧ w.cell? ⟨B, 4, none⟩ = some f :=
  ⟨bx_cell h 0 rfl, bx_cell h 1 rfl, bx_cell h 2 rfl, bx_cell h 3 rfl, bx_cell h 4 rfl⟩

set_option maxHeartbeats 800000 in
set_option maxRecDepth 100000 in
theorem eqC_refl_any (w : World) (v u : Value) (c : Cat) (h : RdC w v c) (h' : RdC w u c) :
    Calls Try.prog 13 #[v, u] w (RetB w true) := by
  obtain ⟨vs, vt, ve, vm, rfl, h1, h2, h3, h4⟩ := h
  obtain ⟨us, ut, ue, um, rfl, k1, k2, k3, k4⟩ := h'
  have H1 := Lib.hid h1; have H2 := Lib.hid h2; have H3 := Lib.hid h3; have H4 := Lib.hid h4
  have K1 := Lib.hid k1; have K2 := Lib.hid k2; have K3 := Lib.hid k3; have K4 := Lib.hid k4
  clear h1 h2 h3 h4 k1 k2 k3 k4
  have hne : (c.ob != c.ob) = false := by simp
  go_enter Try.func13, Try.ntmps13
  go_wp2_with fail
  generalize hW : World.alloc _ _ = W
  have A0 : Bx W w.heap.size 27 [.int .i64 c.ob, vs, vt, ve, vm] := by rw [← hW]; exact bx_alloc (bx_new _ _ _) _
  have A1 : Bx W (w.heap.size + 1) 27 [.int .i64 c.ob, us, ut, ue, um] := by rw [← hW]; exact bx_at (bx_new _ _ _) (by simp)
  have hb : Below w.heap.size w W := by rw [← hW]; exact ((Below.refl _ _).alloc (Nat.le_refl _) _).alloc (by simp) _
  clear hW
  refine (eq_refl_any _ _ _ c.s (rd_below hb H1.out) (rd_below hb K1.out)).mono ?_; rintro e1 u1 ⟨rfl, hn1⟩
  replace A0 := bx_below hn1 A0; replace A1 := bx_below hn1 A1
  replace hb := hb.trans (hn1.mono hb.size)
  clear hn1
  have c0 := bx5 A0; have c1 := bx5 A1
  have X0 := Lib.hid A0; have X1 := Lib.hid A1; clear A0 A1
  go_wp2_with fail
  refine (eq_refl_any _ _ _ c.t (rd_below hb H2.out) (rd_below hb K2.out)).mono ?_; rintro e2 u2 ⟨rfl, hn2⟩
  have A0 := bx_below hn2 X0.out; have A1 := bx_below hn2 X1.out
  replace hb := hb.trans (hn2.mono hb.size)
  clear hn2 c0 c1 X0 X1
  have c0 := bx5 A0; have c1 := bx5 A1
  have X0 := Lib.hid A0; have X1 := Lib.hid A1; clear A0 A1
  go_wp2_with fail
  refine (eq_refl_any _ _ _ c.e (rd_below hb H3.out) (rd_below hb K3.out)).mono ?_; rintro e3 u3 ⟨rfl, hn3⟩
  have A0 := bx_below hn3 X0.out; have A1 := bx_below hn3 X1.out
  replace hb := hb.trans (hn3.mono hb.size)
  clear hn3 c0 c1 X0 X1
  have c0 := bx5 A0; have c1 := bx5 A1
  clear A0 A1
  go_wp2_with fail
  refine (eq2_refl_any _ _ _ c.m (rd2_below hb H4.out) (rd2_below hb K4.out)).mono ?_; rintro e4 u4 ⟨rfl, hn4⟩
  replace hb := hb.trans (hn4.mono hb.size)
  clear hn4 c0 c1
  go_wp2
  go_ret
  exact ⟨rfl, hb⟩

theorem in2_below {w w' : World} {v : Value} {rows : List (List Int)} (hb : Below w.heap.size w w') (h : In2 w v rows) : In2 w' v rows := by
  obtain ⟨a, cap, hv, hl, hc⟩ := h
  refine ⟨a, cap, hv, hl, fun j hj => ?_⟩
  obtain ⟨b, off, ha, hbs, hcell⟩ := hc j hj
  refine ⟨b, off, ha, Nat.lt_of_lt_of_le hbs hb.size, fun i hi => ?_⟩
  obtain ⟨u, h1, h2⟩ := hcell i hi
  exact ⟨u, (hb.cell (p := ⟨b, off + i, none⟩) hbs).trans h1, in_below hb h2⟩
theorem inC_below {w w' : World} {v : Value} {c : Cat} (hb : Below w.heap.size w w') (h : InC w v c) : InC w' v c := by
  obtain ⟨vs, vt, ve, vm, hv, h1, h2, h3, h4⟩ := h
  exact ⟨vs, vt, ve, vm, hv, in_below hb h1, in_below hb h2, in_below hb h3, in2_below hb h4⟩
theorem In.form {w : World} {v : Value} {xs : List Int} (h : In w v xs) : ∃ (a : Option Addr) (cap : Nat), v = .slice a xs.length cap := by
  obtain ⟨a, cap, hv, _⟩ := h
  exact ⟨a, cap, hv⟩
theorem In2.form {w : World} {v : Value} {xs : List (List Int)} (h : In2 w v xs) : ∃ (a : Option Addr) (cap : Nat), v = .slice a xs.length cap := by
  obtain ⟨a, cap, hv, _⟩ := h
  exact ⟨a, cap, hv⟩
theorem InC.form {w : World} {v : Value} {c : Cat} (h : InC w v c) : ∃ (x1 x2 x3 x4 : Option Addr) (k1 k2 k3 k4 : Nat), v = .agg #[.int .i64 c.ob, .slice x1 c.s.length k1, .slice x2 c.t.length k2, .slice x3 c.e.length k3, .slice x4 c.m.length k4] := by
  obtain ⟨vs, vt, ve, vm, rfl, h1, h2, h3, h4⟩ := h
  obtain ⟨a1, c1, rfl⟩ := h1.form
  obtain ⟨a2, c2, rfl⟩ := h2.form
  obtain ⟨a3, c3, rfl⟩ := h3.form
  obtain ⟨a4, c4, rfl⟩ := h4.form
  exact ⟨a1, a2, a3, a4, c1, c2, c3, c4, rfl⟩
theorem In.len {w : World} {v : Value} {xs : List Int} (h : In w v xs) : (xs.length : Int) ≤ 9223372036854775807 := by
  obtain ⟨a, cap, _, hl, _⟩ := h
  unfold maxLen at hl
  omega
theorem mz_le (c : Cat) : mzC c ≤ szM c := by unfold mzC szM; omega

set_option maxHeartbeats 800000 in
set_option maxRecDepth 100000 in
theorem szC_any (w : World) (v : Value) (c : Cat) (left : Int) (h : InC w v c) (h0 : 0 ≤ left) (h1 : left ≤ 1048576) :
    Calls Try.prog 8 #[v, .int .i64 left] w (fun e w' => e = .returned (.int .i64 (if ((szM c : Nat) : Int) ≤ left then left - ((szM c : Nat) : Int) else -1)) ∧ Below w.heap.size w w') := by
  obtain ⟨vs, vt, ve, vm, rfl, g1, g2, g3, g4⟩ := h
  have H1 := Lib.hid g1; have H2 := Lib.hid g2; have H3 := Lib.hid g3; have H4 := Lib.hid g4
  clear g1 g2 g3 g4
  obtain ⟨M, hM⟩ : ∃ M, M = szM c := ⟨_, rfl⟩
  rw [← hM]
  unfold szM at hM
  obtain ⟨n1, e1⟩ : ∃ n, n = c.s.length := ⟨_, rfl⟩
  obtain ⟨n2, e2⟩ : ∃ n, n = c.t.length := ⟨_, rfl⟩
  obtain ⟨n3, e3⟩ : ∃ n, n = c.e.length := ⟨_, rfl⟩
  obtain ⟨n4, e4⟩ : ∃ n, n = c.m.length + offR c.m c.m.length := ⟨_, rfl⟩
  rw [← e1, ← e2, ← e3, ← e4] at hM
  have E1 := Lib.hid e1; have E2 := Lib.hid e2; have E3 := Lib.hid e3; have E4 := Lib.hid e4
  clear e1 e2 e3 e4
  obtain ⟨res, hres⟩ : ∃ res, res = (if (M : Int) ≤ left then left - (M : Int) else -1) := ⟨_, rfl⟩
  rw [← hres]
  have hres' : (M : Int) ≤ left ∧ res = left - M ∨ left < (M : Int) ∧ res = -1 := by
    by_cases hc : (M : Int) ≤ left
    · exact .inl ⟨hc, by rw [hres, if_pos hc]⟩
    · exact .inr ⟨by omega, by rw [hres, if_neg hc]⟩
  have HM := Lib.hid hM; have HR := Lib.hid hres'; clear hres hres' hM
  go_enter Try.func8, Try.ntmps8
  go_wp2_with fail
  generalize hW : World.alloc _ _ = W
  have A0 : Bx W w.heap.size 25 [.int .i64 c.ob, vs, vt, ve, vm] := by rw [← hW]; exact bx_new _ _ _
  have hb : Below w.heap.size w W := by rw [← hW]; exact (Below.refl _ _).alloc (Nat.le_refl _) _
  clear hW
  have c0 := bx5 A0
  have X0 := Lib.hid A0; clear A0
  refine (sz_any _ _ c.s left (in_below hb H1.out) h0 h1).mono ?_
  rw [← E1.out]
  rintro e w1 ⟨rfl, rfl⟩
  by_cases q1 : (n1 : Int) ≤ left
  · rw [if_pos q1]
    have i1 : ¬ left - n1 < 0 := by omega
    go_wp2_with fail
    refine (sz_any _ _ c.t (left - n1) (in_below hb H2.out) (by omega) (by omega)).mono ?_
    rw [← E2.out]
    rintro e w1 ⟨rfl, rfl⟩
    by_cases q2 : (n2 : Int) ≤ left - n1
    · rw [if_pos q2]
      have i2 : ¬ left - n1 - n2 < 0 := by omega
      go_wp2_with fail
      refine (sz_any _ _ c.e (left - n1 - n2) (in_below hb H3.out) (by omega) (by omega)).mono ?_
      rw [← E3.out]
      rintro e w1 ⟨rfl, rfl⟩
      by_cases q3 : (n3 : Int) ≤ left - n1 - n2
      · rw [if_pos q3]
        have i3 : ¬ left - n1 - n2 - n3 < 0 := by omega
        go_wp2_with fail
        refine (sz2_any _ _ c.m (left - n1 - n2 - n3) (in2_below hb H4.out) (by omega) (by omega)).mono ?_
        rw [← E4.out]
        rintro e w1 ⟨rfl, hn1⟩
        replace hb := hb.trans (hn1.mono hb.size)
        clear c0
        by_cases q4 : (n4 : Int) ≤ left - n1 - n2 - n3
        · rw [if_pos q4]
          have i4 : ¬ left - n1 - n2 - n3 - n4 < 0 := by omega
          go_wp2
          go_ret
          exact ⟨ret_i (by have := HM.out; rcases HR.out with ⟨a, b⟩ | ⟨a, b⟩ <;> omega), hb⟩
        · rw [if_neg q4]
          go_wp2
          go_ret
          exact ⟨ret_i (by have := HM.out; rcases HR.out with ⟨a, b⟩ | ⟨a, b⟩ <;> omega), hb⟩
      · rw [if_neg q3]
        go_wp2
        go_ret
        exact ⟨ret_i (by have := HM.out; rcases HR.out with ⟨a, b⟩ | ⟨a, b⟩ <;> omega), hb⟩
    · rw [if_neg q2]
      go_wp2
      go_ret
      exact ⟨ret_i (by have := HM.out; rcases HR.out with ⟨a, b⟩ | ⟨a, b⟩ <;> omega), hb⟩
  · rw [if_neg q1]
    go_wp2
    go_ret
    exact ⟨ret_i (by have := HM.out; rcases HR.out with ⟨a, b⟩ | ⟨a, b⟩ <;> omega), hb⟩

end Go.Proofs.Ytgkfampgofjkfaa

namespace Go.Proofs.Ytgkfampgofjkfaa
open Go.RowKit
open Go.Joins Go.ChangeShapes Go.WideShapes Go.Deep

theorem frS_new {S : Nat → Prop} {w w' : World} (hb : Below w.heap.size w w') : FrS S w w' := ⟨hb.os, hb.tape, hb.output, hb.size, fun k hk _ => hb.block k hk⟩
theorem bx_fr {w w' : World} {B : Nat} {t : TypeId} {cs : List Value} {S : Nat → Prop} (h : Bx w B t cs) (hf : FrS S w w') (hs : ¬ S B) : Bx w' B t cs := by
  unfold Bx at h ⊢
  rw [hf.block B (Array.getElem?_eq_some_iff.1 h).1 hs]; exact h
theorem Loc.small {P : World → (Nat → Prop) → Prop} (h : Loc P) {w : World} {S : Nat → Prop} (hp : P w S) : ∃ T : Nat → Prop, (∀ k, T k → S k) ∧ (∀ k, T k → k < w.heap.size) ∧ P w T :=
  ⟨_, fun _ h => h.1, fun _ h => h.2, h.fin hp⟩
theorem Loc.frS {P : World → (Nat → Prop) → Prop} (h : Loc P) {w w' : World} {S T : Nat → Prop} (hf : FrS T w w') (hd : ∀ k, T k → ¬ S k) (hp : P w S) : P w' S :=
  h.keep (fun _ _ hs => hs) (agree_frS hf hd) hp

/-- A category's own blocks, part by part. -/
theorem ownC_open {w : World} {S : Nat → Prop} {v : Value} {c : Cat} (h : OwnC v c w S) : ∃ (vs vt ve vm : Value) (P1 P2 P3 P4 : Nat → Prop), v = .agg #[.int .i64 c.ob, vs, vt, ve, vm] ∧
    Own1 vs c.s w P1 ∧ Own1 vt c.t w P2 ∧ Own1 ve c.e w P3 ∧ Own2 vm c.m w P4 ∧ (∀ k, P1 k ∨ P2 k ∨ P3 k ∨ P4 k → S k ∧ k < w.heap.size) ∧
    (∀ k, P1 k → ¬ P2 k) ∧ (∀ k, P1 k → ¬ P3 k) ∧ (∀ k, P1 k → ¬ P4 k) ∧ (∀ k, P2 k → ¬ P3 k) ∧ (∀ k, P2 k → ¬ P4 k) ∧ (∀ k, P3 k → ¬ P4 k) := by
  obtain ⟨vs, vt, ve, vm, rfl, S1, T1, a1, b1, d1, h1, S2, T2, a2, b2, d2, h2, S3, S4, a3, b3, d3, h3, h4⟩ := h
  refine ⟨vs, vt, ve, vm, _, _, _, _, rfl, (own1_loc _ _).fin h1, (own1_loc _ _).fin h2, (own1_loc _ _).fin h3, (own2_loc _ _).fin h4, ?_, fun k h h' => d1 k h.1 (a2 k h'.1), fun k h h' => d1 k h.1 (b2 k (a3 k h'.1)), fun k h h' => d1 k h.1 (b2 k (b3 k h'.1)), fun k h h' => d2 k h.1 (a3 k h'.1), fun k h h' => d2 k h.1 (b3 k h'.1), fun k h h' => d3 k h.1 h'.1⟩
  rintro k (h | h | h | h)
  · exact ⟨a1 k h.1, h.2⟩
  · exact ⟨b1 k (a2 k h.1), h.2⟩
  · exact ⟨b1 k (b2 k (a3 k h.1)), h.2⟩
  · exact ⟨b1 k (b2 k (b3 k h.1)), h.2⟩
theorem ownC_shut {w : World} {S : Nat → Prop} {c : Cat} {vs vt ve vm : Value} {P1 P2 P3 P4 : Nat → Prop} (h1 : Own1 vs c.s w P1) (h2 : Own1 vt c.t w P2) (h3 : Own1 ve c.e w P3) (h4 : Own2 vm c.m w P4)
    (hs : ∀ k, P1 k ∨ P2 k ∨ P3 k ∨ P4 k → S k) (d12 : ∀ k, P1 k → ¬ P2 k) (d13 : ∀ k, P1 k → ¬ P3 k) (d14 : ∀ k, P1 k → ¬ P4 k) (d23 : ∀ k, P2 k → ¬ P3 k) (d24 : ∀ k, P2 k → ¬ P4 k) (d34 : ∀ k, P3 k → ¬ P4 k) :
    OwnC (.agg #[.int .i64 c.ob, vs, vt, ve, vm]) c w S :=
  ⟨vs, vt, ve, vm, rfl, P1, fun k => P2 k ∨ P3 k ∨ P4 k, fun k h => hs k (.inl h), fun k h => hs k (.inr h), fun k h h' => by rcases h' with h' | h' | h'; exact d12 k h h'; exact d13 k h h'; exact d14 k h h', h1,
    P2, fun k => P3 k ∨ P4 k, fun k h => .inl h, fun k h => .inr h, fun k h h' => by rcases h' with h' | h'; exact d23 k h h'; exact d24 k h h', h2, P3, P4, fun k h => .inl h, fun k h => .inr h, d34, h3, h4⟩

set_option maxHeartbeats 800000 in
set_option maxRecDepth 100000 in
theorem markC_any (w : World) (S : Nat → Prop) (v : Value) (c : Cat) (k0 : Int) (h : OwnC v c w S) (hk0 : 0 ≤ k0) (hk1 : k0 + (mzC c : Int) ≤ 1152921504606846976) :
    Calls Try.prog 15 #[v, .int .i64 k0] w (fun e w' => e = .returned (.int .i64 (k0 + (mzC c : Int))) ∧ OwnC v (mkC k0 c) w' S ∧ FrS S w w') := by
  unfold mzC at hk1 ⊢
  obtain ⟨vs, vt, ve, vm, P1, P2, P3, P4, rfl, h1, h2, h3, h4, hs, d12, d13, d14, d23, d24, d34⟩ := ownC_open h
  have D12 := Lib.hid d12; have D13 := Lib.hid d13; have D14 := Lib.hid d14; have D23 := Lib.hid d23; have D24 := Lib.hid d24; have D34 := Lib.hid d34; have HS := Lib.hid hs
  have O1 := Lib.hid h1; have O2 := Lib.hid h2; have O3 := Lib.hid h3; have O4 := Lib.hid h4
  have L1 := h1.1.2; have L2 := h2.1.2; have L3 := h3.1.2
  clear h h1 h2 h3 h4 d12 d13 d14 d23 d24 d34 hs
  obtain ⟨n1, e1⟩ : ∃ n, n = c.s.length := ⟨_, rfl⟩
  obtain ⟨n2, e2⟩ : ∃ n, n = c.t.length := ⟨_, rfl⟩
  obtain ⟨n3, e3⟩ : ∃ n, n = c.e.length := ⟨_, rfl⟩
  obtain ⟨n4, e4⟩ : ∃ n, n = offR c.m c.m.length := ⟨_, rfl⟩
  have hmk : mkC k0 c = ⟨c.ob, upTo k0 n1, upTo (k0 + n1) n2, upTo (k0 + n1 + n2) n3, mk2 (k0 + n1 + n2 + n3) c.m c.m.length⟩ := by rw [e1, e2, e3]; rfl
  rw [hmk]
  rw [← e1, ← e2, ← e3, ← e4] at hk1 ⊢
  rw [← e1] at L1; rw [← e2] at L2; rw [← e3] at L3
  have N1 := Lib.hid e1; have N2 := Lib.hid e2; have N3 := Lib.hid e3; have N4 := Lib.hid e4
  clear e1 e2 e3 e4 hmk
  go_enter Try.func15, Try.ntmps15
  go_wp2_with fail
  generalize hW : World.alloc _ _ = W
  have A0 : Bx W w.heap.size 27 [.int .i64 c.ob, vs, vt, ve, vm] := by rw [← hW]; exact bx_new _ _ _
  have hb : Below w.heap.size w W := by rw [← hW]; exact (Below.refl _ _).alloc (Nat.le_refl _) _
  clear hW
  have fr : FrS S w W := frS_new hb
  have t1 := (own1_loc _ _).below hb O1.out; have t2 := (own1_loc _ _).below hb O2.out; have t3 := (own1_loc _ _).below hb O3.out; have t4 := (own2_loc _ _).below hb O4.out
  clear O1 O2 O3 O4 hb
  have O1 := Lib.hid t1; have O2 := Lib.hid t2; have O3 := Lib.hid t3; have O4 := Lib.hid t4
  clear t1 t2 t3 t4
  refine (markS_any _ _ _ c.s k0 O1.out (by omega) (by omega)).mono ?_
  rw [← N1.out]
  rintro e1 u1 ⟨rfl, o1, f1⟩
  replace A0 := bx_fr A0 f1 (fun hk => by have := (HS.out _ (.inl hk)).2; omega)
  have t2 := (own1_loc _ _).frS f1 D12.out O2.out
  have t3 := (own1_loc _ _).frS f1 D13.out O3.out
  have t4 := (own2_loc _ _).frS f1 D14.out O4.out
  replace fr := fr.trans (f1.mono fun q hq => (HS.out q (.inl hq)).1)
  clear O1 O2 O3 O4 f1
  have O1 := Lib.hid o1; have O2 := Lib.hid t2; have O3 := Lib.hid t3; have O4 := Lib.hid t4
  clear o1 t2 t3 t4
  have cc := bx5 A0
  have X0 := Lib.hid A0; clear A0
  go_wp2_with fail
  refine (markS_any _ _ _ c.t (k0 + n1) O2.out (by omega) (by omega)).mono ?_
  rw [← N2.out]
  rintro e2 u2 ⟨rfl, o2, f2⟩
  have A0 := bx_fr X0.out f2 (fun hk => by have := (HS.out _ (.inr (.inl hk))).2; omega)
  have t1 := (own1_loc _ _).frS f2 (fun q a b => D12.out q b a) O1.out
  have t3 := (own1_loc _ _).frS f2 D23.out O3.out
  have t4 := (own2_loc _ _).frS f2 D24.out O4.out
  replace fr := fr.trans (f2.mono fun q hq => (HS.out q (.inr (.inl hq))).1)
  clear O1 O2 O3 O4 f2 X0 cc
  have O1 := Lib.hid t1; have O2 := Lib.hid o2; have O3 := Lib.hid t3; have O4 := Lib.hid t4
  clear t1 o2 t3 t4
  have cc := bx5 A0
  have X0 := Lib.hid A0; clear A0
  go_wp2_with fail
  refine (markS_any _ _ _ c.e (k0 + n1 + n2) O3.out (by omega) (by omega)).mono ?_
  rw [← N3.out]
  rintro e3 u3 ⟨rfl, o3, f3⟩
  have A0 := bx_fr X0.out f3 (fun hk => by have := (HS.out _ (.inr (.inr (.inl hk)))).2; omega)
  have t1 := (own1_loc _ _).frS f3 (fun q a b => D13.out q b a) O1.out
  have t2 := (own1_loc _ _).frS f3 (fun q a b => D23.out q b a) O2.out
  have t4 := (own2_loc _ _).frS f3 D34.out O4.out
  replace fr := fr.trans (f3.mono fun q hq => (HS.out q (.inr (.inr (.inl hq)))).1)
  clear O1 O2 O3 O4 f3 X0 cc
  have O1 := Lib.hid t1; have O2 := Lib.hid t2; have O3 := Lib.hid o3; have O4 := Lib.hid t4
  clear t1 t2 o3 t4
  have cc := bx5 A0
  have X0 := Lib.hid A0; clear A0
  go_wp2_with fail
  refine (markS2_any _ _ _ c.m (k0 + n1 + n2 + n3) O4.out (by omega) (by have := N4.out; omega)).mono ?_
  rw [← N4.out]
  rintro e4 u4 ⟨rfl, o4, f4⟩
  have A0 := bx_fr X0.out f4 (fun hk => by have := (HS.out _ (.inr (.inr (.inr hk)))).2; omega)
  have t1 := (own1_loc _ _).frS f4 (fun q a b => D14.out q b a) O1.out
  have t2 := (own1_loc _ _).frS f4 (fun q a b => D24.out q b a) O2.out
  have t3 := (own1_loc _ _).frS f4 (fun q a b => D34.out q b a) O3.out
  replace fr := fr.trans (f4.mono fun q hq => (HS.out q (.inr (.inr (.inr hq)))).1)
  clear O1 O2 O3 O4 f4 X0 cc
  have O1 := Lib.hid t1; have O2 := Lib.hid t2; have O3 := Lib.hid t3; have O4 := Lib.hid o4
  clear t1 t2 t3 o4
  clear A0
  have hF := Lib.hid (ownC_shut (c := ⟨c.ob, upTo k0 n1, upTo (k0 + n1) n2, upTo (k0 + n1 + n2) n3, mk2 (k0 + n1 + n2 + n3) c.m c.m.length⟩) O1.out O2.out O3.out O4.out (fun k hk => (HS.out k hk).1) D12.out D13.out D14.out D23.out D24.out D34.out)
  clear O1 O2 O3 O4 HS D12 D13 D14 D23 D24 D34
  go_wp2
  go_ret
  exact ⟨ret_i (by omega), hF.out, fr⟩

theorem mk2_off {k0 : Int} (rows : List (List Int)) : ∀ i, i ≤ rows.length → offR (mk2 k0 rows rows.length) i = offR rows i := by
  intro i
  induction i with
  | zero => intro _; rfl
  | succ i ih =>
    intro hi
    show offR (mk2 k0 rows rows.length) i + ((mk2 k0 rows rows.length).getD i []).length = offR rows i + (rows.getD i []).length
    rw [ih (by omega), mk2_getD (by omega), if_pos (by omega), upTo_length]

set_option maxHeartbeats 800000 in
set_option maxRecDepth 100000 in
theorem heldC_any (w : World) (v : Value) (c : Cat) (k0 : Int) (h : RdC w v (mkC k0 c)) (hk0 : 0 ≤ k0) (hk1 : k0 + (mzC c : Int) ≤ 1152921504606846976) :
    Calls Try.prog 17 #[v, .int .i64 k0] w (RetI w (k0 + (mzC c : Int))) := by
  unfold mzC at hk1 ⊢
  obtain ⟨vs, vt, ve, vm, rfl, h1, h2, h3, h4⟩ := h
  simp only [mkC] at h1 h2 h3 h4
  have H1 := Lib.hid h1; have H2 := Lib.hid h2; have H3 := Lib.hid h3; have H4 := Lib.hid h4
  clear h1 h2 h3 h4
  obtain ⟨n1, e1⟩ : ∃ n, n = c.s.length := ⟨_, rfl⟩
  obtain ⟨n2, e2⟩ : ∃ n, n = c.t.length := ⟨_, rfl⟩
  obtain ⟨n3, e3⟩ : ∃ n, n = c.e.length := ⟨_, rfl⟩
  obtain ⟨n4, e4⟩ : ∃ n, n = offR c.m c.m.length := ⟨_, rfl⟩
  rw [← e1, ← e2, ← e3, ← e4] at hk1 ⊢
  rw [← e1] at H1; rw [← e1, ← e2] at H2; rw [← e1, ← e2, ← e3] at H3; rw [← e1, ← e2, ← e3] at H4
  have N4 := Lib.hid e4
  clear e1 e2 e3 e4
  go_enter Try.func17, Try.ntmps17
  simp only [mkC]
  go_wp2_with fail
  generalize hW : World.alloc _ _ = W
  have A0 : Bx W w.heap.size 27 [.int .i64 c.ob, vs, vt, ve, vm] := by rw [← hW]; exact bx_new _ _ _
  have hb : Below w.heap.size w W := by rw [← hW]; exact (Below.refl _ _).alloc (Nat.le_refl _) _
  clear hW
  refine (held_any _ _ n1 k0 (rd_below hb H1.out) (by omega) (by omega)).mono ?_; rintro e1 u1 ⟨rfl, hn1⟩
  replace A0 := bx_below hn1 A0
  replace hb := hb.trans (hn1.mono hb.size)
  clear hn1
  have i1 : ¬ k0 + n1 < 0 := by omega
  have cc := bx5 A0
  have X0 := Lib.hid A0; clear A0
  go_wp2_with fail
  refine (held_any _ _ n2 (k0 + n1) (rd_below hb H2.out) (by omega) (by omega)).mono ?_; rintro e2 u2 ⟨rfl, hn2⟩
  have A0 := bx_below hn2 X0.out
  replace hb := hb.trans (hn2.mono hb.size)
  clear hn2 X0 cc
  have i2 : ¬ (k0 + n1) + n2 < 0 := by omega
  have cc := bx5 A0
  have X0 := Lib.hid A0; clear A0
  go_wp2_with fail
  refine (held_any _ _ n3 (k0 + n1 + n2) (rd_below hb H3.out) (by omega) (by omega)).mono ?_; rintro e3 u3 ⟨rfl, hn3⟩
  have A0 := bx_below hn3 X0.out
  replace hb := hb.trans (hn3.mono hb.size)
  clear hn3 X0 cc
  have i3 : ¬ (k0 + n1 + n2) + n3 < 0 := by omega
  have cc := bx5 A0
  have X0 := Lib.hid A0; clear A0
  go_wp2_with fail
  refine (held2_any _ _ c.m (k0 + n1 + n2 + n3) (rd2_below hb H4.out) (by omega) (by have := N4.out; omega)).mono ?_
  rw [← N4.out]
  rintro e4 u4 ⟨rfl, hn4⟩
  have A0 := bx_below hn4 X0.out
  replace hb := hb.trans (hn4.mono hb.size)
  clear hn4 X0 cc
  have i4 : ¬ (k0 + n1 + n2 + n3) + n4 < 0 := by omega
  clear A0
  go_wp2
  go_ret
  exact ⟨ret_i (by omega), hb⟩

set_option maxRecDepth 100000 in
theorem in_of_trod {H : Type} {enc : TypeId × Value → H} {w : World} {v : Value} {x : DataW H × List MemPlace} {fuel : Nat}
    (hf : DataW.trod enc Try.prog w 0 (fun _ => true) true fuel 22 [v] = some x) : ∃ xs, In w v xs := by
  rcases open_ints Try.underlying22 Try.underlying2 cells64 hf with ⟨hcs, _⟩ | ⟨a, len, cap, zs, hcs, _, hl, hm, hz, _, hcell, hwz⟩
  · simp at hcs
    subst hcs
    exact ⟨[], none, 0, rfl, Nat.zero_le _, by simp, fun j hj => absurd hj (Nat.not_lt_zero _)⟩
  · simp at hcs
    subst hcs
    simp only [if_true] at hz
    have htl : (zs.take len).length = len := by simp; omega
    refine ⟨zs.take len, some a, cap, by rw [htl], by omega, fun x hx => hwz x (List.mem_of_mem_take hx), fun j hj => ?_⟩
    rw [htl] at hj
    obtain ⟨b, off, spot⟩ := a
    have hspot : spot = none := by simpa [Addr.add] using World.cell?_spot (hcell 0 (by omega))
    subst hspot
    refine ⟨b, off, rfl, World.block_lt_of_cell? w _ (by simpa using hcell 0 (by omega)), fun i hi => ?_⟩
    rw [htl] at hi
    rw [take_getD hi]
    have hh := hcell i (by omega)
    rw [Addr.add_lit] at hh
    exact hh

set_option maxRecDepth 100000 in
theorem in2_of_trod {H : Type} {enc : TypeId × Value → H} {w : World} {v : Value} {x : DataW H × List MemPlace} {fuel : Nat}
    (hf : DataW.trod enc Try.prog w 0 (fun _ => true) true fuel 23 [v] = some x) : ∃ rows, In2 w v rows := by
  rcases Go.Deep.open_int_rows Try.underlying23 Try.underlying22 Try.underlying2 cellsS64 cells64 hf with ⟨hcs, _⟩ | ⟨a, len, cap, A, L, C, Z, hcs, _, hl, hm, _, hrow⟩
  · simp at hcs
    subst hcs
    exact ⟨[], none, 0, rfl, Nat.zero_le _, fun j hj => absurd hj (Nat.not_lt_zero _)⟩
  · simp at hcs
    subst hcs
    have hrl : ((List.range len).map fun r => (Z r).take (L r)).length = len := by simp
    refine ⟨(List.range len).map fun r => (Z r).take (L r), some a, cap, by rw [hrl], by rw [hrl]; omega, fun j hj => ?_⟩
    rw [hrl] at hj
    obtain ⟨b, off, spot⟩ := a
    have hspot : spot = none := by simpa [Addr.add] using World.cell?_spot (hrow 0 (by omega)).1
    subst hspot
    refine ⟨b, off, rfl, World.block_lt_of_cell? w _ (by simpa using (hrow 0 (by omega)).1), fun i hi => ?_⟩
    rw [hrl] at hi
    obtain ⟨h1, h2, h3, h4, h5, h6, h7⟩ := hrow i (by omega)
    rw [Addr.add_lit] at h1
    have hgd : ((List.range len).map fun r => (Z r).take (L r)).getD i [] = (Z i).take (L i) := by simp [List.getD_eq_getElem?_getD, hi]
    rw [hgd]
    have htl : ((Z i).take (L i)).length = L i := by simp; omega
    refine ⟨_, h1, A i, C i, by rw [htl], by omega, fun x hx => h5 x (List.mem_of_mem_take hx), fun q hq => ?_⟩
    rw [htl] at hq
    cases hA : A i with
    | none => have := h6 hA; omega
    | some a' =>
      obtain ⟨hbase, hcells⟩ := h7 a' hA
      obtain ⟨b', off', spot'⟩ := a'
      have hs2 : spot' = none := by simpa [Addr.add] using World.cell?_spot (hcells 0 (by omega))
      subst hs2
      refine ⟨b', off', rfl, World.block_lt_of_cell? w _ (by simpa using hcells 0 (by omega)), fun c hc => ?_⟩
      rw [htl] at hc
      rw [take_getD hc]
      have hh := hcells c (by omega)
      rw [Addr.add_lit] at hh
      exact hh

/-- A struct of five one-cell fields, by value (after the kit's page extra-structs). -/
theorem openAgg5 {H : Type} {enc : TypeId × Value → H} {P : Program} {w : World} {base : Nat} {spare : Nat → Bool} {held : Bool} {r : Reach} {b0 : Nat} {t : TypeId} {f0 f1 f2 f3 f4 : Field} {v : Value} {d : DataW H} {p : List MemPlace} (hs : P.underlying t = some (.struct #[f0, f1, f2, f3, f4])) (hone : oneCellFields P #[f0, f1, f2, f3, f4] = true) (hC : P.cellsOf t = 5)
    (hv : Value.okWide P w r b0 t v) (h : DataW.Trod enc P w base spare held t v d p) :
    ∃ (v0 v1 v2 v3 v4 : Value) (y0 y1 y2 y3 y4 : DataW H × List MemPlace) (n : Nat), v = .agg #[v0, v1, v2, v3, v4] ∧
      DataW.trod enc P w base spare held n f0.type [v0] = some y0 ∧ DataW.trod enc P w base spare held n f1.type [v1] = some y1 ∧ DataW.trod enc P w base spare held n f2.type [v2] = some y2 ∧ DataW.trod enc P w base spare held n f3.type [v3] = some y3 ∧ DataW.trod enc P w base spare held n f4.type [v4] = some y4 := by
  obtain ⟨cs, rfl, hsz⟩ := okWide_struct hs hv
  obtain ⟨l⟩ := cs
  match l, hsz.trans hC with
  | [c0, c1, c2, c3, c4], _ =>
    obtain ⟨fuel, hf⟩ := h
    obtain ⟨xs, n, _, hx, _, hlen, hg⟩ := DataW.trod_struct hs hf
    obtain ⟨o0, k0⟩ := hone_of hone 0 f0 rfl
    obtain ⟨o1, k1⟩ := hone_of hone 1 f1 rfl
    obtain ⟨o2, k2⟩ := hone_of hone 2 f2 rfl
    obtain ⟨o3, k3⟩ := hone_of hone 3 f3 rfl
    obtain ⟨o4, k4⟩ := hone_of hone 4 f4 rfl
    match xs, hlen with
    | [y0, y1, y2, y3, y4], _ =>
      exact ⟨c0, c1, c2, c3, c4, y0, y1, y2, y3, y4, n, rfl, by simpa [Value.cells, o0, k0] using hg 0 f0 rfl, by simpa [Value.cells, o1, k1] using hg 1 f1 rfl, by simpa [Value.cells, o2, k2] using hg 2 f2 rfl, by simpa [Value.cells, o3, k3] using hg 3 f3 rfl, by simpa [Value.cells, o4, k4] using hg 4 f4 rfl⟩

set_option maxRecDepth 100000 in
theorem open_inC {H : Type} {enc : TypeId × Value → H} {w : World} {v : Value} {d : DataW H} {ps : List MemPlace} {base : Nat}
    (hv : Value.okWide Try.prog w .any base 25 v) (h : DataW.Trod enc Try.prog w 0 (fun _ => true) true 25 v d ps) : ∃ c, InC w v c := by
  obtain ⟨v0, v1, v2, v3, v4, y0, y1, y2, y3, y4, n, rfl, t0, t1, t2, t3, t4⟩ := openAgg5 Try.underlying25 (by kernel_rfl) (by kernel_rfl) hv h
  obtain ⟨xs, h1⟩ := in_of_trod t1
  obtain ⟨ys, h2⟩ := in_of_trod t2
  obtain ⟨zs, h3⟩ := in_of_trod t3
  obtain ⟨rows, h4⟩ := in2_of_trod t4
  obtain ⟨x, hx, _⟩ := DataW.trod_int Try.underlying2 t0
  simp at hx
  subst hx
  exact ⟨⟨x, xs, ys, zs, rows⟩, v1, v2, v3, v4, rfl, h1, h2, h3, h4⟩

theorem rdC_drew {w : World} {v : Value} {c : Cat} (h : RdC w v c) : RdC w.drew v c := rdC_below (Below.refl _ _).drew h

end Go.Proofs.Ytgkfampgofjkfaa
