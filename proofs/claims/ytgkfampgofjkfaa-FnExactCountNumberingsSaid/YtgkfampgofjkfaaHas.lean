
/- Whether numbers are objects or arrows of a category: the program's tests. | The program's test of identities and of composites. -/
import Derived.Test.YtgkfampgofjkfaaShort
import Derived.Test.YtgkfampgofjkfaaMem
set_option linter.unusedSimpArgs false
set_option linter.unusedVariables false
set_option linter.unusedSectionVars false
namespace Go.Proofs.Ytgkfampgofjkfaa
open Go.RowKit

theorem rd_one {w : World} {B : Nat} {x : Int} (hB : B < w.heap.size) (h : w.cell? ⟨B, 0, none⟩ = some (.int .i64 x)) : Rd w (.slice (some ⟨B, 0, none⟩) 1 1) [x] :=
 ⟨some ⟨B, 0, none⟩, 1, rfl, by simp, fun j hj => ⟨B, 0, rfl, hB, fun i hi => by
  have : i = 0 := by simp at hi; omega
  subst this; simpa using h⟩⟩
theorem rd_two {w : World} {B : Nat} {x y : Int} (hB : B < w.heap.size) (h : w.cell? ⟨B, 0, none⟩ = some (.int .i64 x)) (h' : w.cell? ⟨B, 1, none⟩ = some (.int .i64 y)) : Rd w (.slice (some ⟨B, 0, none⟩) 2 2) [x, y] :=
 ⟨some ⟨B, 0, none⟩, 2, rfl, by simp, fun j hj => ⟨B, 0, rfl, hB, fun i hi => by
  have : i = 0 ∨ i = 1 := by simp at hi; omega
  rcases this with rfl | rfl
  ·simpa using h
  ·simpa using h'⟩⟩
theorem allP_one {n x : Int} : AllP n [x] ↔ 0 ≤ x ∧ x < n := by simp [AllP]
theorem allP_two {n x y : Int} : AllP n [x, y] ↔ (0 ≤ x ∧ x < n) ∧ 0 ≤ y ∧ y < n := by simp [AllP]

set_option maxHeartbeats 800000 in
set_option maxRecDepth 100000 in
theorem hasObjects_any (w : World) (v u : Value) (c : Cat) (xs : List Int) (b : Bool) (h : RdC w v c) (hu : Rd w u xs) (hb : bP (AllP c.ob xs) = b) :
  Calls Try.prog 39 #[v, u] w (RetB w b) := by
 obtain ⟨x1, x2, x3, x4, k1, k2, k3, k4, rfl, _, _, _, _, l1, l2, l3, l4⟩ := h.lists
 clear h
 obtain ⟨a, cap, rfl, hl, hc⟩ := hu
 have HC := Lib.hid hc; clear hc
 have HB := Lib.hid hb; clear hb
 go_enter Try.func39, Try.ntmps39
 go_wp2
 go_loopw [6, 9] (fun _ i wr => ∃ k : Nat, k ≤ xs.length ∧ i = .int .i64 k ∧ Hid (∀ j, j < k → 0 ≤ xs.getD j 0 ∧ xs.getD j 0 < c.ob) ∧ Hid (Bx wr w.heap.size 27 [.int .i64 c.ob, .slice x1 c.s.length k1, .slice x2 c.t.length k2, .slice x3 c.e.length k3, .slice x4 c.m.length k4]) ∧ Below w.heap.size w wr) (fun _ i _ => xs.length - (intOf i).toNat)
 case atStart => exact ⟨0, Nat.zero_le _, rfl, fun j hj => absurd hj (by omega), bx_new _ _ _, (Below.refl _ _).alloc (Nat.le_refl _) _⟩
 case round =>
  obtain ⟨k, hk, rfl, hall, hbx, hbel⟩ := hrel
  by_cases hlt : k < xs.length
  ·obtain ⟨bb, off, rfl, hbs, hcell⟩ := HC.out k hlt
   have c1 : wr.cell? ⟨bb, off + k, none⟩ = some (.int .i64 (xs.getD k 0)) := (hbel.cell (p := ⟨bb, off + k, none⟩) hbs).trans (hcell k hlt)
   have c2 := bx_cell hbx.out 0 rfl
   clear hcell
   obtain ⟨x, hx⟩ : ∃ x, x = xs.getD k 0 := ⟨_, rfl⟩
   rw [← hx] at c1
   have HX := Lib.hid hx; clear hx
   by_cases h0 : x < 0
   ·have hf : b = false := by
     rw [← HB.out]
     exact bP_f fun hall' => by have := hall' _ (mem_getD hlt); rw [← HX.out] at this; omega
    subst hf
    go_wp2
    go_ret
    exact ⟨rfl, hbel⟩
   ·by_cases h1 : c.ob ≤ x
    ·have hf : b = false := by
      rw [← HB.out]
      exact bP_f fun hall' => by have := hall' _ (mem_getD hlt); rw [← HX.out] at this; omega
     subst hf
     go_wp2
     go_ret
     exact ⟨rfl, hbel⟩
    ·go_wp2
     go_roundw
     case rel =>
      refine ⟨k + 1, by omega, by go_num, fun j hj => ?_, hbx, hbel⟩
      by_cases hjk : j = k
      ·subst hjk; rw [← HX.out]; omega
      ·exact hall.out j (by omega)
     case measure => simp [intOf]; omega
  ·obtain rfl : k = xs.length := by omega
   have ht : b = true := by
    rw [← HB.out]
    exact bP_t (allP_of hall.out)
   subst ht
   go_wp2
   go_ret
   exact ⟨rfl, hbel⟩

set_option maxHeartbeats 800000 in
set_option maxRecDepth 100000 in
theorem hasArrows_any (w : World) (v u : Value) (c : Cat) (xs : List Int) (b : Bool) (h : RdC w v c) (hu : Rd w u xs) (hb : bP (AllP c.s.length xs) = b) :
  Calls Try.prog 40 #[v, u] w (RetB w b) := by
 have HV := Lib.hid h
 obtain ⟨x1, x2, x3, x4, k1, k2, k3, k4, rfl, _, _, _, _, l1, l2, l3, l4⟩ := h.lists
 clear h
 obtain ⟨a, cap, rfl, hl, hc⟩ := hu
 have HC := Lib.hid hc; clear hc
 have HB := Lib.hid hb; clear hb
 go_enter Try.func40, Try.ntmps40
 go_wp2
 go_loopw [6, 9] (fun _ i wr => ∃ k : Nat, k ≤ xs.length ∧ i = .int .i64 k ∧ Hid (∀ j, j < k → 0 ≤ xs.getD j 0 ∧ xs.getD j 0 < c.s.length) ∧ Hid (Bx wr w.heap.size 27 [.int .i64 c.ob, .slice x1 c.s.length k1, .slice x2 c.t.length k2, .slice x3 c.e.length k3, .slice x4 c.m.length k4]) ∧ Below w.heap.size w wr) (fun _ i _ => xs.length - (intOf i).toNat)
 case atStart => exact ⟨0, Nat.zero_le _, rfl, fun j hj => absurd hj (by omega), bx_new _ _ _, (Below.refl _ _).alloc (Nat.le_refl _) _⟩
 case round =>
  obtain ⟨k, hk, rfl, hall, hbx, hbel⟩ := hrel
  by_cases hlt : k < xs.length
  ·obtain ⟨bb, off, rfl, hbs, hcell⟩ := HC.out k hlt
   have c1 : wr.cell? ⟨bb, off + k, none⟩ = some (.int .i64 (xs.getD k 0)) := (hbel.cell (p := ⟨bb, off + k, none⟩) hbs).trans (hcell k hlt)
   have c2 := bx5 hbx.out
   clear hcell
   obtain ⟨x, hx⟩ : ∃ x, x = xs.getD k 0 := ⟨_, rfl⟩
   rw [← hx] at c1
   have HX := Lib.hid hx; clear hx
   by_cases h0 : x < 0
   ·have hf : b = false := by
     rw [← HB.out]
     exact bP_f fun hall' => by have := hall' _ (mem_getD hlt); rw [← HX.out] at this; omega
    subst hf
    go_wp2
    go_ret
    exact ⟨rfl, hbel⟩
   ·by_cases h1 : (c.s.length : Int) ≤ x
    ·have hf : b = false := by
      rw [← HB.out]
      exact bP_f fun hall' => by have := hall' _ (mem_getD hlt); rw [← HX.out] at this; omega
     subst hf
     go_wp2_with fail
     refine (arrows_any _ _ c (rdC_below hbel HV.out)).mono ?_; rintro e w1 ⟨rfl, hb1⟩
     go_wp2
     go_ret
     exact ⟨rfl, hbel.trans (hb1.mono hbel.size)⟩
    ·go_wp2_with fail
     refine (arrows_any _ _ c (rdC_below hbel HV.out)).mono ?_; rintro e w1 ⟨rfl, hb1⟩
     go_wp2
     go_roundw
     case rel =>
      refine ⟨k + 1, by omega, by go_num, fun j hj => ?_, bx_below hb1 hbx.out, hbel.trans (hb1.mono hbel.size)⟩
      by_cases hjk : j = k
      ·subst hjk; rw [← HX.out]; omega
      ·exact hall.out j (by omega)
     case measure => simp [intOf]; omega
  ·obtain rfl : k = xs.length := by omega
   have ht : b = true := by
    rw [← HB.out]
    exact bP_t (allP_of hall.out)
   subst ht
   go_wp2
   go_ret
   exact ⟨rfl, hbel⟩

def RowsP (c : Cat) : Prop := ∀ j, j < c.m.length → (c.m.getD j []).length = c.s.length

set_option maxHeartbeats 800000 in
set_option maxRecDepth 100000 in
theorem hasLengths_any (w : World) (v : Value) (c : Cat) (b : Bool) (h : RdC w v c) (hb : bP (LenP c ∧ RowsP c) = b) :
  Calls Try.prog 110 #[v] w (RetB w b) := by
 have HV := Lib.hid h
 obtain ⟨x1, x2, x3, x4, k1, k2, k3, k4, rfl, _, _, _, hm, l1, l2, l3, l4⟩ := h.lists
 have HM := Lib.hid hm
 clear h hm
 have HB := Lib.hid hb; clear hb
 by_cases q1 : c.ob < 0
 ·obtain rfl : b = false := by rw [← HB.out]; exact bP_f fun hh => by have := hh.1.ob0; omega
  go_enter Try.func110, Try.ntmps110
  go_wp2
  go_ret
  exact ⟨rfl, (Below.refl _ _).alloc (Nat.le_refl _) _⟩
 by_cases q2 : 8 < c.ob
 ·obtain rfl : b = false := by rw [← HB.out]; exact bP_f fun hh => by have := hh.1.ob8; omega
  go_enter Try.func110, Try.ntmps110
  go_wp2
  go_ret
  exact ⟨rfl, (Below.refl _ _).alloc (Nat.le_refl _) _⟩
 by_cases q3 : 40 < c.s.length
 ·obtain rfl : b = false := by rw [← HB.out]; exact bP_f fun hh => by have := hh.1.n40; omega
  have q3' : (40 : Int) < c.s.length := by omega
  have hb0 := (Below.refl w.heap.size w).alloc (Nat.le_refl _) (.cells #[.int .i64 c.ob, .slice x1 c.s.length k1, .slice x2 c.t.length k2, .slice x3 c.e.length k3, .slice x4 c.m.length k4] 27)
  go_enter Try.func110, Try.ntmps110
  go_wp2_with fail
  refine (arrows_any _ _ c (rdC_below hb0 HV.out)).mono ?_; rintro e w1 ⟨rfl, hb1⟩
  go_wp2
  go_ret
  exact ⟨rfl, hb0.trans (hb1.mono hb0.size)⟩
 have q3' : ¬ (40 : Int) < c.s.length := by omega
 have hb0 := (Below.refl w.heap.size w).alloc (Nat.le_refl _) (.cells #[.int .i64 c.ob, .slice x1 c.s.length k1, .slice x2 c.t.length k2, .slice x3 c.e.length k3, .slice x4 c.m.length k4] 27)
 have X0 := Lib.hid (bx_new w 27 [.int .i64 c.ob, .slice x1 c.s.length k1, .slice x2 c.t.length k2, .slice x3 c.e.length k3, .slice x4 c.m.length k4])
 by_cases q : (c.e.length : Int) = c.ob ∧ c.t.length = c.s.length ∧ c.m.length = c.s.length
 ·obtain ⟨e1, e2, e3⟩ := q
  have E1 := Lib.hid e1; have E2 := Lib.hid e2; have E3 := Lib.hid e3
  have d1 : ((c.e.length : Int) != c.ob) = false := by rw [e1]; simp
  have d2 : (c.t.length != c.s.length) = false := by rw [e2]; simp
  have d2' : ((c.t.length : Int) != (c.s.length : Int)) = false := by rw [e2]; simp
  have d3 : (c.m.length != c.s.length) = false := by rw [e3]; simp
  have d3' : ((c.m.length : Int) != (c.s.length : Int)) = false := by rw [e3]; simp
  clear e1 e2 e3
  have hlen : LenP c := ⟨by omega, by omega, by omega, E1.out, E2.out, E3.out⟩
  have HL := Lib.hid hlen; clear hlen
  go_enter Try.func110, Try.ntmps110
  go_wp2_with fail
  refine (arrows_any _ _ c (rdC_below hb0 HV.out)).mono ?_; rintro e w1 ⟨rfl, hb1⟩
  have X1 := Lib.hid (bx_below hb1 X0.out)
  have hbs := hb0.trans (hb1.mono hb0.size)
  have c5 := bx5 X1.out
  clear hb0 hb1 X0
  go_wp2
  clear c5
  go_loopw [4, 45] (fun _ i wr => ∃ k : Nat, k ≤ c.m.length ∧ i = .int .i64 k ∧ Hid (∀ j, j < k → (c.m.getD j []).length = c.s.length) ∧ Hid (Bx wr w.heap.size 27 [.int .i64 c.ob, .slice x1 c.s.length k1, .slice x2 c.t.length k2, .slice x3 c.e.length k3, .slice x4 c.m.length k4]) ∧ Below w.heap.size w wr) (fun _ i _ => c.m.length - (intOf i).toNat)
  case atStart => exact ⟨0, Nat.zero_le _, rfl, fun j hj => absurd hj (by omega), X1.out, hbs⟩
  case round =>
   obtain ⟨k, hk, rfl, hall, hbx, hbel⟩ := hrel
   clear d1 d2 d2' d3 d3'
   by_cases hlt : k < c.m.length
   ·obtain ⟨bb, off, a', cap', rfl, hbs', hcell, _⟩ := rd2_at HM.out (x := (k : Int)) (by omega) (by omega)
    have c1 : wr.cell? ⟨bb, off + k, none⟩ = some (.slice a' (row2 c.m k).length cap') := (hbel.cell (p := ⟨bb, off + k, none⟩) hbs').trans (by simpa using hcell)
    have c2 := bx5 hbx.out
    clear hcell
    obtain ⟨n, hn⟩ : ∃ n, n = (row2 c.m k).length := ⟨_, rfl⟩
    rw [← hn] at c1
    have HN : Hid (n = (c.m.getD k []).length) := by rw [hn]; simp [Hid, row2]
    clear hn
    by_cases he : n = c.s.length
    ·have HE := Lib.hid he
     have d1 : (n != c.s.length) = false := by rw [he]; simp
     have d2 : ((n : Int) != (c.s.length : Int)) = false := by rw [he]; simp
     clear he
     go_wp2
     go_roundw
     case rel =>
      refine ⟨k + 1, by omega, by go_num, fun j hj => ?_, hbx, hbel⟩
      by_cases hjk : j = k
      ·subst hjk; rw [← HN.out, HE.out]
      ·exact hall.out j (by omega)
     case measure => simp [intOf]; omega
    ·obtain rfl : b = false := by rw [← HB.out]; exact bP_f fun hh => by have := hh.2 k hlt; rw [← HN.out] at this; exact he this
     have d1 : (n != c.s.length) = true := by simpa using he
     have d2 : ((n : Int) != (c.s.length : Int)) = true := by rw [bne_iff_ne]; omega
     clear he
     go_wp2
     go_ret
     exact ⟨rfl, hbel⟩
   ·obtain rfl : k = c.m.length := by omega
    obtain rfl : b = true := by rw [← HB.out]; exact bP_t ⟨HL.out, hall.out⟩
    go_wp2
    go_ret
    exact ⟨rfl, hbel⟩
 ·obtain rfl : b = false := by rw [← HB.out]; exact bP_f fun hh => q ⟨hh.1.el, hh.1.tl, hh.1.ml⟩
  by_cases e1 : (c.e.length : Int) = c.ob
  ·have d1 : ((c.e.length : Int) != c.ob) = false := by rw [e1]; simp
   by_cases e2 : c.t.length = c.s.length
   ·have d2 : (c.t.length != c.s.length) = false := by rw [e2]; simp
    have d2' : ((c.t.length : Int) != (c.s.length : Int)) = false := by rw [e2]; simp
    have e3 : c.m.length ≠ c.s.length := fun e3 => q ⟨e1, e2, e3⟩
    have d3 : (c.m.length != c.s.length) = true := by simpa using e3
    have d3' : ((c.m.length : Int) != (c.s.length : Int)) = true := by rw [bne_iff_ne]; omega
    clear q e1 e2 e3
    go_enter Try.func110, Try.ntmps110
    go_wp2_with fail
    refine (arrows_any _ _ c (rdC_below hb0 HV.out)).mono ?_; rintro e w1 ⟨rfl, hb1⟩
    have c5 := bx5 (bx_below hb1 X0.out)
    go_wp2
    go_ret
    exact ⟨rfl, hb0.trans (hb1.mono hb0.size)⟩
   ·have d2 : (c.t.length != c.s.length) = true := by simpa using e2
    have d2' : ((c.t.length : Int) != (c.s.length : Int)) = true := by rw [bne_iff_ne]; omega
    clear q e1 e2
    go_enter Try.func110, Try.ntmps110
    go_wp2_with fail
    refine (arrows_any _ _ c (rdC_below hb0 HV.out)).mono ?_; rintro e w1 ⟨rfl, hb1⟩
    have c5 := bx5 (bx_below hb1 X0.out)
    go_wp2
    go_ret
    exact ⟨rfl, hb0.trans (hb1.mono hb0.size)⟩
  ·have d1 : ((c.e.length : Int) != c.ob) = true := by rw [bne_iff_ne]; exact e1
   clear q e1
   go_enter Try.func110, Try.ntmps110
   go_wp2_with fail
   refine (arrows_any _ _ c (rdC_below hb0 HV.out)).mono ?_; rintro e w1 ⟨rfl, hb1⟩
   have c5 := bx5 (bx_below hb1 X0.out)
   go_wp2
   go_ret
   exact ⟨rfl, hb0.trans (hb1.mono hb0.size)⟩

end Go.Proofs.Ytgkfampgofjkfaa

namespace Go.Proofs.Ytgkfampgofjkfaa
open Go.RowKit

set_option maxHeartbeats 800000 in
set_option maxRecDepth 100000 in
theorem hasIdentities_any (w : World) (v : Value) (c : Cat) (b : Bool) (h : RdC w v c) (hL : LenP c) (hb : bP (∀ x : Nat, x < c.e.length → okIdent c x) = b) :
  Calls Try.prog 111 #[v] w (RetB w b) := by
 have HV := Lib.hid h
 obtain ⟨x1, x2, x3, x4, k1, k2, k3, k4, rfl, _, _, he, _, l1, l2, l3, l4⟩ := h.lists
 have HE := Lib.hid he
 have HLP := Lib.hid hL
 clear h he hL
 have HB := Lib.hid hb; clear hb
 go_enter Try.func111, Try.ntmps111
 go_wp2
 go_loopw [3, 4, 8] (fun _ _ i wr => ∃ k : Nat, k ≤ c.e.length ∧ i = .int .i64 k ∧ Hid (∀ j, j < k → okIdent c j) ∧ Hid (Bx wr w.heap.size 27 [.int .i64 c.ob, .slice x1 c.s.length k1, .slice x2 c.t.length k2, .slice x3 c.e.length k3, .slice x4 c.m.length k4]) ∧ Below w.heap.size w wr) (fun _ _ i _ => c.e.length - (intOf i).toNat)
 case atStart => exact ⟨0, Nat.zero_le _, rfl, fun j hj => absurd hj (by omega), bx_new _ _ _, (Below.refl _ _).alloc (Nat.le_refl _) _⟩
 case round =>
  obtain ⟨k, hk, rfl, hall, hbx, hbel⟩ := hrel
  by_cases hlt : k < c.e.length
  ·obtain ⟨bb, off, rfl, hbs, hcell⟩ := rd_at HE.out (x := (k : Int)) (by omega) (by omega)
   have c1 : wr.cell? ⟨bb, off + k, none⟩ = some (.int .i64 (at0 c.e k)) := (hbel.cell (p := ⟨bb, off + k, none⟩) hbs).trans (by simpa using hcell)
   have c2 := bx5 hbx.out
   clear hcell
   obtain ⟨x, hx⟩ : ∃ x, x = at0 c.e k := ⟨_, rfl⟩
   rw [← hx] at c1
   have hfin : okIdent c k ↔ c.arr x ∧ at0 c.s x = k ∧ at0 c.t x = k := by unfold okIdent; rw [← hx]
   have HF := Lib.hid hfin; clear hx hfin
   go_wp2_with fail
   generalize hW : World.alloc _ _ = W
   have hn0 : Below wr.heap.size wr W := by rw [← hW]; exact (Below.refl _ _).alloc (Nat.le_refl _) _
   have d1 : W.cell? ⟨wr.heap.size, 0, none⟩ = some (.int .i64 x) := by rw [← hW, World.cell?_alloc_at _ _ _ _ rfl]; rfl
   have d2 : wr.heap.size < W.heap.size := by rw [← hW]; simp
   clear hW
   have R1 := rd_one d2 d1
   have X1 := Lib.hid (bx_below hn0 hbx.out)
   have hb1 := hbel.trans (hn0.mono hbel.size)
   by_cases ha : c.arr x
   ·refine (hasArrows_any _ _ _ c [x] true (rdC_below hb1 HV.out) R1 (bP_t (allP_one.2 ha))).mono ?_; rintro e w1 ⟨rfl, hn1⟩
    have X2 := Lib.hid (bx_below hn1 X1.out)
    have hb2 := hb1.trans (hn1.mono hb1.size)
    clear d1 d2 R1 X1 hn0 hb1 hn1 hbx c2 c1
    have c2 := bx5 X2.out
    obtain ⟨a0, a1⟩ := ha
    have a2 : x < c.t.length := by have := HLP.out.tl; omega
    go_wp2_with fail
    refine (ends_any _ _ c x (rdC_below hb2 HV.out) a0 a1 a2).mono ?_; rintro e w2 ⟨rfl, hn2⟩
    have X3 := Lib.hid (bx_below hn2 X2.out)
    have hb3 := hb2.trans (hn2.mono hb2.size)
    clear hn2 X2 c2 hb2
    by_cases hq : at0 c.s x = k ∧ at0 c.t x = k
    ·have hok : Hid (okIdent c k) := HF.out.2 ⟨⟨a0, a1⟩, hq⟩
     obtain ⟨e1, e2⟩ := hq
     rw [e1, e2]
     clear e1 e2
     go_wp2
     go_roundw
     case rel =>
      refine ⟨k + 1, by omega, by go_num, fun j hj => ?_, X3, hb3⟩
      by_cases hjk : j = k
      ·subst hjk; exact hok.out
      ·exact hall.out j (by omega)
     case measure => simp [intOf]; omega
    ·obtain rfl : b = false := by rw [← HB.out]; exact bP_f fun hh => hq (HF.out.1 (hh k hlt)).2
     generalize at0 c.s x = y at hq ⊢
     generalize at0 c.t x = z at hq ⊢
     by_cases hy : y = k
     ·have hz : z ≠ k := fun hz => hq ⟨hy, hz⟩
      have t1 : (y == (k : Int)) = true := by simp [hy]
      have t2 : (z == (k : Int)) = false := by simpa using hz
      clear hq hy hz
      go_wp2
      go_ret
      exact ⟨rfl, hb3⟩
     ·have t1 : (y == (k : Int)) = false := by simpa using hy
      clear hq hy
      go_wp2
      go_ret
      exact ⟨rfl, hb3⟩
   ·obtain rfl : b = false := by rw [← HB.out]; exact bP_f fun hh => ha (HF.out.1 (hh k hlt)).1
    refine (hasArrows_any _ _ _ c [x] false (rdC_below hb1 HV.out) R1 (bP_f fun hh => ha (allP_one.1 hh))).mono ?_; rintro e w1 ⟨rfl, hn1⟩
    have hb2 := hb1.trans (hn1.mono hb1.size)
    clear d1 d2 R1 X1 hn0 hb1 hn1 hbx c2 c1 ha
    go_wp2
    go_ret
    exact ⟨rfl, hb2⟩
  ·obtain rfl : k = c.e.length := by omega
   obtain rfl : b = true := by rw [← HB.out]; exact bP_t hall.out
   go_wp2
   go_ret
   exact ⟨rfl, hbel⟩

end Go.Proofs.Ytgkfampgofjkfaa
