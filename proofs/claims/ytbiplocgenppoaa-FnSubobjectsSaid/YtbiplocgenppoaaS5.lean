import Derived.Test.YtbiplocgenppoaaS4
import Derived.Test.YtbiplocgenppoaaS2
set_option maxHeartbeats 1000000
set_option maxRecDepth 100000
set_option linter.unusedSimpArgs false
set_option linter.unusedVariables false
set_option linter.unusedSectionVars false
namespace Go.Proofs.Ytbiplocgenppoaa
open _root_.Go.Proofs.Try
open Go.RowKit
theorem rd_one {w : World} {B : Nat} {x : Int} (hB : B < w.heap.size) (h : w.cell? ⟨B, 0, none⟩ = some (.int .i64 x)) : Rd w (.slice (some ⟨B, 0, none⟩) 1 1) [x] :=
 ⟨some ⟨B, 0, none⟩, 1, rfl, by simp, fun j hj => ⟨B, 0, rfl, hB, fun i hi => by
  have : i = 0 := by simp at hi; omega
  subst this; simpa using h⟩⟩
theorem allP_one {n x : Int} : AllP n [x] ↔ 0 ≤ x ∧ x < n := by simp [AllP]
theorem allP_two {n x y : Int} : AllP n [x, y] ↔ (0 ≤ x ∧ x < n) ∧ 0 ≤ y ∧ y < n := by simp [AllP]
theorem hasObjects_any (w : World) (v u : Value) (c : Cat) (xs : List Int) (b : Bool) (h : RdC w v c) (hu : Rd w u xs) (hb : bP (AllP c.ob xs) = b) :
  Calls Try.prog 63 #[v, u] w (RetB w b) := by
 obtain ⟨x1, x2, x3, x4, k1, k2, k3, k4, rfl, _, _, _, _, l1, l2, l3, l4⟩ := h.lists
 clear h
 obtain ⟨a, cap, rfl, hl, hc⟩ := hu
 have HC := Lib.hid hc; clear hc
 have HB := Lib.hid hb; clear hb
 go_enter func63, Try.ntmps63
 go_wp2
 go_loopw [6, 9] (fun _ i wr => ∃ k : Nat, k ≤ xs.length ∧ i = .int .i64 k ∧ Hid (∀ j, j < k → 0 ≤ xs.getD j 0 ∧ xs.getD j 0 < c.ob) ∧ Hid (Bx wr w.heap.size 27 [.int .i64 c.ob, .slice x1 c.s.length k1, .slice x2 c.t.length k2, .slice x3 c.e.length k3, .slice x4 c.m.length k4]) ∧ Below w.heap.size w wr) (fun _ i _ => xs.length - (intOf i).toNat)
 case atStart => exact ⟨0, Nat.zero_le _, rfl, fun j hj => absurd hj (by omega), bx_new _ _ _, (Below.refl _ _).alloc (Nat.le_refl _) _⟩
 case round =>
  obtain ⟨k, hk, rfl, hall, hbx, hbel⟩ := hrel
  by_cases hlt : k < xs.length
  ·obtain ⟨bb, off, rfl, hbs, hcell⟩ := HC.out k hlt
   have c1 : wr.cell? ⟨bb, off + k, none⟩ = some (.int .i64 (xs.getD k 0)) := (hbel.cell (p := ⟨bb, off + k, none⟩) hbs).trans (hcell k hlt)
   have c2 := bx_cell hbx.out 0 rfl
   clear hcell
   obtain ⟨x, hx⟩ : ∃ x, x = xs.getD k 0 := ⟨_, rfl⟩
   rw [← hx] at c1
   have HX := Lib.hid hx; clear hx
   by_cases h0 : x < 0
   ·have hf : b = false := by
     rw [← HB.out]
     exact bP_f fun hall' => by have := hall' _ (mem_getD hlt); rw [← HX.out] at this; omega
    subst hf
    go_wp2
    go_ret
    exact ⟨rfl, hbel⟩
   by_cases h1 : c.ob ≤ x
   ·have hf : b = false := by
     rw [← HB.out]
     exact bP_f fun hall' => by have := hall' _ (mem_getD hlt); rw [← HX.out] at this; omega
    subst hf
    go_wp2
    go_ret
    exact ⟨rfl, hbel⟩
   go_wp2
   go_roundw
   case rel =>
    refine ⟨k + 1, by omega, by go_num, fun j hj => ?_, hbx, hbel⟩
    by_cases hjk : j = k
    ·subst hjk; rw [← HX.out]; omega
    exact hall.out j (by omega)
   case measure => simp [intOf]; omega
  obtain rfl : k = xs.length := by omega
  have ht : b = true := by
   rw [← HB.out]
   exact bP_t (allP_of hall.out)
  subst ht
  go_wp2
  go_ret
  exact ⟨rfl, hbel⟩
theorem hasArrows_any (w : World) (v u : Value) (c : Cat) (xs : List Int) (b : Bool) (h : RdC w v c) (hu : Rd w u xs) (hb : bP (AllP c.s.length xs) = b) :
  Calls Try.prog 73 #[v, u] w (RetB w b) := by
 have HV := Lib.hid h
 obtain ⟨x1, x2, x3, x4, k1, k2, k3, k4, rfl, _, _, _, _, l1, l2, l3, l4⟩ := h.lists
 clear h
 obtain ⟨a, cap, rfl, hl, hc⟩ := hu
 have HC := Lib.hid hc; clear hc
 have HB := Lib.hid hb; clear hb
 go_enter func73, Try.ntmps73
 go_wp2
 go_loopw [6, 9] (fun _ i wr => ∃ k : Nat, k ≤ xs.length ∧ i = .int .i64 k ∧ Hid (∀ j, j < k → 0 ≤ xs.getD j 0 ∧ xs.getD j 0 < c.s.length) ∧ Hid (Bx wr w.heap.size 27 [.int .i64 c.ob, .slice x1 c.s.length k1, .slice x2 c.t.length k2, .slice x3 c.e.length k3, .slice x4 c.m.length k4]) ∧ Below w.heap.size w wr) (fun _ i _ => xs.length - (intOf i).toNat)
 case atStart => exact ⟨0, Nat.zero_le _, rfl, fun j hj => absurd hj (by omega), bx_new _ _ _, (Below.refl _ _).alloc (Nat.le_refl _) _⟩
 case round =>
  obtain ⟨k, hk, rfl, hall, hbx, hbel⟩ := hrel
  by_cases hlt : k < xs.length
  ·obtain ⟨bb, off, rfl, hbs, hcell⟩ := HC.out k hlt
   have c1 : wr.cell? ⟨bb, off + k, none⟩ = some (.int .i64 (xs.getD k 0)) := (hbel.cell (p := ⟨bb, off + k, none⟩) hbs).trans (hcell k hlt)
   have c2 := bx5 hbx.out
   clear hcell
   obtain ⟨x, hx⟩ : ∃ x, x = xs.getD k 0 := ⟨_, rfl⟩
   rw [← hx] at c1
   have HX := Lib.hid hx; clear hx
   by_cases h0 : x < 0
   ·have hf : b = false := by
     rw [← HB.out]
     exact bP_f fun hall' => by have := hall' _ (mem_getD hlt); rw [← HX.out] at this; omega
    subst hf
    go_wp2
    go_ret
    exact ⟨rfl, hbel⟩
   by_cases h1 : (c.s.length : Int) ≤ x
   ·have hf : b = false := by
     rw [← HB.out]
     exact bP_f fun hall' => by have := hall' _ (mem_getD hlt); rw [← HX.out] at this; omega
    subst hf
    go_wp2_with fail
    refine (arrows_any _ _ c (rdC_below hbel HV.out)).mono ?_; rintro e w1 ⟨rfl, hb1⟩
    go_wp2
    go_ret
    exact ⟨rfl, hbel.trans (hb1.mono hbel.size)⟩
   go_wp2_with fail
   refine (arrows_any _ _ c (rdC_below hbel HV.out)).mono ?_; rintro e w1 ⟨rfl, hb1⟩
   go_wp2
   go_roundw
   case rel =>
    refine ⟨k + 1, by omega, by go_num, fun j hj => ?_, bx_below hb1 hbx.out, hbel.trans (hb1.mono hbel.size)⟩
    by_cases hjk : j = k
    ·subst hjk; rw [← HX.out]; omega
    exact hall.out j (by omega)
   case measure => simp [intOf]; omega
  obtain rfl : k = xs.length := by omega
  have ht : b = true := by
   rw [← HB.out]
   exact bP_t (allP_of hall.out)
  subst ht
  go_wp2
  go_ret
  exact ⟨rfl, hbel⟩
def RowsP (c : Cat) : Prop := ∀ j, j < c.m.length → (c.m.getD j []).length = c.s.length
theorem hasLengths_any (w : World) (v : Value) (c : Cat) (b : Bool) (h : RdC w v c) (hb : bP (LenP c ∧ RowsP c) = b) :
  Calls Try.prog 105 #[v] w (RetB w b) := by
 have HV := Lib.hid h
 obtain ⟨x1, x2, x3, x4, k1, k2, k3, k4, rfl, _, _, _, hm, l1, l2, l3, l4⟩ := h.lists
 have HM := Lib.hid hm
 clear h hm
 have HB := Lib.hid hb; clear hb
 by_cases q1 : c.ob < 0
 ·obtain rfl : b = false := by rw [← HB.out]; exact bP_f fun hh => by have := hh.1.ob0; omega
  go_enter func105, Try.ntmps105
  go_wp2
  go_ret
  exact ⟨rfl, (Below.refl _ _).alloc (Nat.le_refl _) _⟩
 by_cases q2 : 8 < c.ob
 ·obtain rfl : b = false := by rw [← HB.out]; exact bP_f fun hh => by have := hh.1.ob8; omega
  go_enter func105, Try.ntmps105
  go_wp2
  go_ret
  exact ⟨rfl, (Below.refl _ _).alloc (Nat.le_refl _) _⟩
 by_cases q3 : 40 < c.s.length
 ·obtain rfl : b = false := by rw [← HB.out]; exact bP_f fun hh => by have := hh.1.n40; omega
  have q3' : (40 : Int) < c.s.length := by omega
  have hb0 := (Below.refl w.heap.size w).alloc (Nat.le_refl _) (.cells #[.int .i64 c.ob, .slice x1 c.s.length k1, .slice x2 c.t.length k2, .slice x3 c.e.length k3, .slice x4 c.m.length k4] 27)
  go_enter func105, Try.ntmps105
  go_wp2_with fail
  refine (arrows_any _ _ c (rdC_below hb0 HV.out)).mono ?_; rintro e w1 ⟨rfl, hb1⟩
  go_wp2
  go_ret
  exact ⟨rfl, hb0.trans (hb1.mono hb0.size)⟩
 have q3' : ¬ (40 : Int) < c.s.length := by omega
 have hb0 := (Below.refl w.heap.size w).alloc (Nat.le_refl _) (.cells #[.int .i64 c.ob, .slice x1 c.s.length k1, .slice x2 c.t.length k2, .slice x3 c.e.length k3, .slice x4 c.m.length k4] 27)
 have X0 := Lib.hid (bx_new w 27 [.int .i64 c.ob, .slice x1 c.s.length k1, .slice x2 c.t.length k2, .slice x3 c.e.length k3, .slice x4 c.m.length k4])
 by_cases q : (c.e.length : Int) = c.ob ∧ c.t.length = c.s.length ∧ c.m.length = c.s.length
 ·obtain ⟨e1, e2, e3⟩ := q
  have E1 := Lib.hid e1; have E2 := Lib.hid e2; have E3 := Lib.hid e3
  have d1 : ((c.e.length : Int) != c.ob) = false := by rw [e1]; simp
  have d2 : (c.t.length != c.s.length) = false := by rw [e2]; simp
  have d2' : ((c.t.length : Int) != (c.s.length : Int)) = false := by rw [e2]; simp
  have d3 : (c.m.length != c.s.length) = false := by rw [e3]; simp
  have d3' : ((c.m.length : Int) != (c.s.length : Int)) = false := by rw [e3]; simp
  clear e1 e2 e3
  have hlen : LenP c := ⟨by omega, by omega, by omega, E1.out, E2.out, E3.out⟩
  have HL := Lib.hid hlen; clear hlen
  go_enter func105, Try.ntmps105
  go_wp2_with fail
  refine (arrows_any _ _ c (rdC_below hb0 HV.out)).mono ?_; rintro e w1 ⟨rfl, hb1⟩
  have X1 := Lib.hid (bx_below hb1 X0.out)
  have hbs := hb0.trans (hb1.mono hb0.size)
  have c5 := bx5 X1.out
  clear hb0 hb1 X0
  go_wp2
  clear c5
  go_loopw [4, 45] (fun _ i wr => ∃ k : Nat, k ≤ c.m.length ∧ i = .int .i64 k ∧ Hid (∀ j, j < k → (c.m.getD j []).length = c.s.length) ∧ Hid (Bx wr w.heap.size 27 [.int .i64 c.ob, .slice x1 c.s.length k1, .slice x2 c.t.length k2, .slice x3 c.e.length k3, .slice x4 c.m.length k4]) ∧ Below w.heap.size w wr) (fun _ i _ => c.m.length - (intOf i).toNat)
  case atStart => exact ⟨0, Nat.zero_le _, rfl, fun j hj => absurd hj (by omega), X1.out, hbs⟩
  case round =>
   obtain ⟨k, hk, rfl, hall, hbx, hbel⟩ := hrel
   clear d1 d2 d2' d3 d3'
   by_cases hlt : k < c.m.length
   ·obtain ⟨bb, off, a', cap', rfl, hbs', hcell, _⟩ := rd2_at HM.out (x := (k : Int)) (by omega) (by omega)
    have c1 : wr.cell? ⟨bb, off + k, none⟩ = some (.slice a' (row2 c.m k).length cap') := (hbel.cell (p := ⟨bb, off + k, none⟩) hbs').trans (by simpa using hcell)
    have c2 := bx5 hbx.out
    clear hcell
    obtain ⟨n, hn⟩ : ∃ n, n = (row2 c.m k).length := ⟨_, rfl⟩
    rw [← hn] at c1
    have HN : Hid (n = (c.m.getD k []).length) := by rw [hn]; simp [Hid, row2]
    clear hn
    by_cases he : n = c.s.length
    ·have HE := Lib.hid he
     have d1 : (n != c.s.length) = false := by rw [he]; simp
     have d2 : ((n : Int) != (c.s.length : Int)) = false := by rw [he]; simp
     clear he
     go_wp2
     go_roundw
     case rel =>
      refine ⟨k + 1, by omega, by go_num, fun j hj => ?_, hbx, hbel⟩
      by_cases hjk : j = k
      ·subst hjk; rw [← HN.out, HE.out]
      exact hall.out j (by omega)
     case measure => simp [intOf]; omega
    obtain rfl : b = false := by rw [← HB.out]; exact bP_f fun hh => by have := hh.2 k hlt; rw [← HN.out] at this; exact he this
    have d1 : (n != c.s.length) = true := by simpa using he
    have d2 : ((n : Int) != (c.s.length : Int)) = true := by rw [bne_iff_ne]; omega
    clear he
    go_wp2
    go_ret
    exact ⟨rfl, hbel⟩
   obtain rfl : k = c.m.length := by omega
   obtain rfl : b = true := by rw [← HB.out]; exact bP_t ⟨HL.out, hall.out⟩
   go_wp2
   go_ret
   exact ⟨rfl, hbel⟩
 obtain rfl : b = false := by rw [← HB.out]; exact bP_f fun hh => q ⟨hh.1.el, hh.1.tl, hh.1.ml⟩
 by_cases e1 : (c.e.length : Int) = c.ob
 ·have d1 : ((c.e.length : Int) != c.ob) = false := by rw [e1]; simp
  by_cases e2 : c.t.length = c.s.length
  ·have d2 : (c.t.length != c.s.length) = false := by rw [e2]; simp
   have d2' : ((c.t.length : Int) != (c.s.length : Int)) = false := by rw [e2]; simp
   have e3 : c.m.length ≠ c.s.length := fun e3 => q ⟨e1, e2, e3⟩
   have d3 : (c.m.length != c.s.length) = true := by simpa using e3
   have d3' : ((c.m.length : Int) != (c.s.length : Int)) = true := by rw [bne_iff_ne]; omega
   clear q e1 e2 e3
   go_enter func105, Try.ntmps105
   go_wp2_with fail
   refine (arrows_any _ _ c (rdC_below hb0 HV.out)).mono ?_; rintro e w1 ⟨rfl, hb1⟩
   have c5 := bx5 (bx_below hb1 X0.out)
   go_wp2
   go_ret
   exact ⟨rfl, hb0.trans (hb1.mono hb0.size)⟩
  have d2 : (c.t.length != c.s.length) = true := by simpa using e2
  have d2' : ((c.t.length : Int) != (c.s.length : Int)) = true := by rw [bne_iff_ne]; omega
  clear q e1 e2
  go_enter func105, Try.ntmps105
  go_wp2_with fail
  refine (arrows_any _ _ c (rdC_below hb0 HV.out)).mono ?_; rintro e w1 ⟨rfl, hb1⟩
  have c5 := bx5 (bx_below hb1 X0.out)
  go_wp2
  go_ret
  exact ⟨rfl, hb0.trans (hb1.mono hb0.size)⟩
 have d1 : ((c.e.length : Int) != c.ob) = true := by rw [bne_iff_ne]; exact e1
 clear q e1
 go_enter func105, Try.ntmps105
 go_wp2_with fail
 refine (arrows_any _ _ c (rdC_below hb0 HV.out)).mono ?_; rintro e w1 ⟨rfl, hb1⟩
 have c5 := bx5 (bx_below hb1 X0.out)
 go_wp2
 go_ret
 exact ⟨rfl, hb0.trans (hb1.mono hb0.size)⟩
end Go.Proofs.Ytbiplocgenppoaa
namespace Go.Proofs.Ytbiplocgenppoaa
open _root_.Go.Proofs.Try
open Go.RowKit
theorem hasIdentities_any (w : World) (v : Value) (c : Cat) (b : Bool) (h : RdC w v c) (hL : LenP c) (hb : bP (∀ x : Nat, x < c.e.length → okIdent c x) = b) :
  Calls Try.prog 106 #[v] w (RetB w b) := by
 have HV := Lib.hid h
 obtain ⟨x1, x2, x3, x4, k1, k2, k3, k4, rfl, _, _, he, _, l1, l2, l3, l4⟩ := h.lists
 have HE := Lib.hid he
 have HLP := Lib.hid hL
 clear h he hL
 have HB := Lib.hid hb; clear hb
 go_enter func106, Try.ntmps106
 go_wp2
 go_loopw [3, 4, 8] (fun _ _ i wr => ∃ k : Nat, k ≤ c.e.length ∧ i = .int .i64 k ∧ Hid (∀ j, j < k → okIdent c j) ∧ Hid (Bx wr w.heap.size 27 [.int .i64 c.ob, .slice x1 c.s.length k1, .slice x2 c.t.length k2, .slice x3 c.e.length k3, .slice x4 c.m.length k4]) ∧ Below w.heap.size w wr) (fun _ _ i _ => c.e.length - (intOf i).toNat)
 case atStart => exact ⟨0, Nat.zero_le _, rfl, fun j hj => absurd hj (by omega), bx_new _ _ _, (Below.refl _ _).alloc (Nat.le_refl _) _⟩
 case round =>
  obtain ⟨k, hk, rfl, hall, hbx, hbel⟩ := hrel
  by_cases hlt : k < c.e.length
  ·obtain ⟨bb, off, rfl, hbs, hcell⟩ := rd_at HE.out (x := (k : Int)) (by omega) (by omega)
   have c1 : wr.cell? ⟨bb, off + k, none⟩ = some (.int .i64 (at0 c.e k)) := (hbel.cell (p := ⟨bb, off + k, none⟩) hbs).trans (by simpa using hcell)
   have c2 := bx5 hbx.out
   clear hcell
   obtain ⟨x, hx⟩ : ∃ x, x = at0 c.e k := ⟨_, rfl⟩
   rw [← hx] at c1
   have hfin : okIdent c k ↔ c.arr x ∧ at0 c.s x = k ∧ at0 c.t x = k := by unfold okIdent; rw [← hx]
   have HF := Lib.hid hfin; clear hx hfin
   go_wp2_with fail
   generalize hW : World.alloc _ _ = W
   have hn0 : Below wr.heap.size wr W := by rw [← hW]; exact (Below.refl _ _).alloc (Nat.le_refl _) _
   have d1 : W.cell? ⟨wr.heap.size, 0, none⟩ = some (.int .i64 x) := by rw [← hW, World.cell?_alloc_at _ _ _ _ rfl]; rfl
   have d2 : wr.heap.size < W.heap.size := by rw [← hW]; simp
   clear hW
   have R1 := rd_one d2 d1
   have X1 := Lib.hid (bx_below hn0 hbx.out)
   have hb1 := hbel.trans (hn0.mono hbel.size)
   by_cases ha : c.arr x
   ·refine (hasArrows_any _ _ _ c [x] true (rdC_below hb1 HV.out) R1 (bP_t (allP_one.2 ha))).mono ?_; rintro e w1 ⟨rfl, hn1⟩
    have X2 := Lib.hid (bx_below hn1 X1.out)
    have hb2 := hb1.trans (hn1.mono hb1.size)
    clear d1 d2 R1 X1 hn0 hb1 hn1 hbx c2 c1
    have c2 := bx5 X2.out
    obtain ⟨a0, a1⟩ := ha
    have a2 : x < c.t.length := by have := HLP.out.tl; omega
    go_wp2_with fail
    refine (ends_any _ _ c x (rdC_below hb2 HV.out) a0 a1 a2).mono ?_; rintro e w2 ⟨rfl, hn2⟩
    have X3 := Lib.hid (bx_below hn2 X2.out)
    have hb3 := hb2.trans (hn2.mono hb2.size)
    clear hn2 X2 c2 hb2
    by_cases hq : at0 c.s x = k ∧ at0 c.t x = k
    ·have hok : Hid (okIdent c k) := HF.out.2 ⟨⟨a0, a1⟩, hq⟩
     obtain ⟨e1, e2⟩ := hq
     rw [e1, e2]
     clear e1 e2
     go_wp2
     go_roundw
     case rel =>
      refine ⟨k + 1, by omega, by go_num, fun j hj => ?_, X3, hb3⟩
      by_cases hjk : j = k
      ·subst hjk; exact hok.out
      exact hall.out j (by omega)
     case measure => simp [intOf]; omega
    obtain rfl : b = false := by rw [← HB.out]; exact bP_f fun hh => hq (HF.out.1 (hh k hlt)).2
    generalize at0 c.s x = y at hq ⊢
    generalize at0 c.t x = z at hq ⊢
    by_cases hy : y = k
    ·have hz : z ≠ k := fun hz => hq ⟨hy, hz⟩
     have t1 : (y == (k : Int)) = true := by simp [hy]
     have t2 : (z == (k : Int)) = false := by simpa using hz
     clear hq hy hz
     go_wp2
     go_ret
     exact ⟨rfl, hb3⟩
    have t1 : (y == (k : Int)) = false := by simpa using hy
    clear hq hy
    go_wp2
    go_ret
    exact ⟨rfl, hb3⟩
   obtain rfl : b = false := by rw [← HB.out]; exact bP_f fun hh => ha (HF.out.1 (hh k hlt)).1
   refine (hasArrows_any _ _ _ c [x] false (rdC_below hb1 HV.out) R1 (bP_f fun hh => ha (allP_one.1 hh))).mono ?_; rintro e w1 ⟨rfl, hn1⟩
   have hb2 := hb1.trans (hn1.mono hb1.size)
   clear d1 d2 R1 X1 hn0 hb1 hn1 hbx c2 c1 ha
   go_wp2
   go_ret
   exact ⟨rfl, hb2⟩
  obtain rfl : k = c.e.length := by omega
  obtain rfl : b = true := by rw [← HB.out]; exact bP_t hall.out
  go_wp2
  go_ret
  exact ⟨rfl, hbel⟩
end Go.Proofs.Ytbiplocgenppoaa
namespace Go.Proofs.Ytbiplocgenppoaa
open _root_.Go.Proofs.Try
open Go.RowKit
theorem row2_len {c : Cat} (hr : RowsP c) {f : Int} (f0 : 0 ≤ f) (f1 : f < c.m.length) : (row2 c.m f).length = c.s.length := hr f.toNat (by omega)
theorem bP_no' {p : Prop} (h : bP p = false) : ¬ p := fun hp => by rw [bP_t hp] at h; cases h
theorem bP_yes' {p : Prop} (h : bP p = true) : p := bP_iff.1 h
theorem bP_eq_dec {p q : Prop} [Decidable q] (h : p ↔ q) : decide q = bP p := by rw [← bP_dec]; exact bP_congr h.symm
theorem fits_w (w : World) (v : Value) (c : Cat) (f g : Int) (h : RdC w v c) (hL : LenP c) (hR : RowsP c) (f0 : 0 ≤ f) (f1 : f < c.s.length) (g0 : 0 ≤ g) (g1 : g < c.s.length) :
  Calls Try.prog 107 #[v, .int .i64 f, .int .i64 g] w (RetB w (bP (okComp c f g))) := by
 have h0 := h
 obtain ⟨va, vb, vc, vd, ve, vf, vg, vh, rfl, h1, h2, h3, h4, _⟩ := h.lists
 have htl := hL.tl; have hml := hL.ml; have hrw := row2_len hR f0 (by omega)
 go_enter func107, Try.ntmps107
 refine gc_enter (N := 46) rfl (look_cons (k := 0) rfl (look_cons (k := 1) rfl (look_cons (k := 2) rfl (look_nil _)))) ?_
 refine gc_sr fun K1 hK1 => ?_
 refine gop fun K3 hK3 => ?_
 refine go_box rfl rfl rfl rfl rfl ?_
 intro B2
 refine hK3 _ _ ?_
 refine gas ?_
 refine gnt (hK1 _ _ ?_)
 refine gc_sr fun K4 hK4 => ?_
 refine gv (qts underlying27 (n := 0)) ?_
 refine gm ?_
 refine gm ?_
 refine g_q (.free rfl) rfl rfl (qt_call rfl func30 rfl (by decide) rfl (fun w M => then_any w _ _ _ _ (mem_rdC M h0) (by first | assumption | omega) (by first | assumption | omega) (by first | assumption | omega) (by first | assumption | omega))) ?_
 refine gas ?_
 refine gnt (hK4 _ _ ?_)
 refine gc_seq fun K5 hK5 => ?_
 refine gc_seq fun K6 hK6 => ?_
 refine gc_draw (by kernel_rfl) ?_
 refine gdv (qtf underlying27 (z := 0) (off := 2)) ?_
 refine gdv (qtl underlying24 (n := 0)) ?_
 refine gdv (qt_move rfl rfl) ?_
 refine gdv (qti (fun w M => lenA_rd h2)) ?_
 refine gdv (qtd (fun w M => mem_rd M h2)) ?_
 refine gdv (qtf underlying27 (z := 0) (off := 1)) ?_
 refine gdv (qtl underlying24 (n := 0)) ?_
 refine gdv (qt_move rfl rfl) ?_
 refine gdv (qti (fun w M => lenA_rd h1)) ?_
 refine gdv (qtd (fun w M => mem_rd M h1)) ?_
 refine gdv (qt_neq rfl rfl rfl) ?_
 refine gd_nil ?_
 refine gk_then (hK6 _ _ ?_)
 refine gc_cond rfl (fun hc0 => ?_) (fun hc0 => ?_)
 ·try simp only [sA] at hc0
  refine gc_sr fun K7 hK7 => ?_
  refine gm ?_
  refine gv (qt_eql rfl rfl rfl) ?_
  refine gas ?_
  refine gnt (hK7 _ _ ?_)
  refine gc_ret ?_
  refine gk_then_ret ?_
  refine ret_1 rfl rfl  (fun w M => ?_)
  refine ⟨?_, M.1⟩; rw [bP_eq_dec (p := okComp c f g)]; exact ⟨fun h => h.2 hc0, fun h => ⟨fun h2 => absurd h2 hc0, fun _ => h⟩⟩
 try simp only [sA] at hc0
 refine gc_skip ?_
 refine gk_then (hK5 _ _ ?_)
 refine gc_seq fun K8 hK8 => ?_
 try simp only [sL]
 refine ga_start _ (fun w M => M) ?_
 refine gav 0 rfl (qts underlying27 (n := 0)) ?_
 refine gav 1 rfl (qt_move rfl rfl) ?_
 refine gao 2 fun K10 hK10 => ?_
 refine go_slice1 rfl rfl rfl rfl underlying24 ?_
 intro B9
 refine hK10 _ _ (fun w M => (mem_take 1 M :)) ?_
 refine gao 3 fun K11 hK11 => ?_
 refine go_q rfl rfl (qt_call rfl func73 rfl (by decide) rfl (fun w M => hasArrows_any w _ _ _ _ _ (mem_rdC M h0) ((mem_own1 (n := 1) M rfl).rd) rfl)) ?_
 refine hK11 _ _ (fun w M => (mem_take 1 M :)) ?_
 refine ga_splitv 4 rfl (by kernel_rfl) (by kernel_rfl) (by kernel_rfl) (.free rfl) rfl rfl (qt_move rfl rfl) (fun _ _ _ _ h => h) (fun hs4_4 => ?_) (fun hs4_4 => ?_)
 ·try simp only [sA] at hs4_4
  have ha := allP_one.1 (bP_yes' hs4_4)
  have x1 := ha.1; have x2 := ha.2
  refine ga_v 5 rfl (by kernel_rfl) (by kernel_rfl) (by kernel_rfl) (.held _ _ _ rfl rfl rfl) rfl rfl (qts underlying27 (n := 0)) (fun _ _ _ h => h) ?_
  refine ga_v 6 rfl (by kernel_rfl) (by kernel_rfl) (by kernel_rfl) (.held _ _ _ rfl rfl rfl) rfl rfl (qt_move rfl rfl) (fun _ _ _ h => h) ?_
  refine ga_v 8 rfl (by kernel_rfl) (by kernel_rfl) (by kernel_rfl) (.held _ _ _ rfl rfl rfl) rfl rfl (qtf underlying27 (z := 0) (off := 1)) (fun _ _ _ h => h) ?_
  refine ga_v 9 rfl (by kernel_rfl) (by kernel_rfl) (by kernel_rfl) (.held _ _ _ rfl rfl rfl) rfl rfl (qtl underlying24 (n := 0)) (fun _ _ _ h => h) ?_
  refine ga_v 10 rfl (by kernel_rfl) (by kernel_rfl) (by kernel_rfl) (.held _ _ _ rfl rfl rfl) rfl rfl (qt_move rfl rfl) (fun _ _ _ h => h) ?_
  refine ga_v 11 rfl (by kernel_rfl) (by kernel_rfl) (by kernel_rfl) (.held _ _ _ rfl rfl rfl) rfl rfl (qt_index rfl rfl rfl ulE1 szE1 (fun w M => lenA_rd h1) (by omega) (by omega)) (fun _ _ _ h => h) ?_
  refine ga_v 12 rfl (by kernel_rfl) (by kernel_rfl) (by kernel_rfl) (.held _ _ _ rfl rfl rfl) rfl rfl (qt_load1 rfl rfl underlying2 rfl (fun w M => mem_rd M h1) (by omega) (by omega)) (fun _ _ _ h => h) ?_
  refine ga_v 13 rfl (by kernel_rfl) (by kernel_rfl) (by kernel_rfl) (.held _ _ _ rfl rfl rfl) rfl rfl (qtf underlying27 (z := 0) (off := 2)) (fun _ _ _ h => h) ?_
  refine ga_v 14 rfl (by kernel_rfl) (by kernel_rfl) (by kernel_rfl) (.held _ _ _ rfl rfl rfl) rfl rfl (qtl underlying24 (n := 0)) (fun _ _ _ h => h) ?_
  refine ga_v 15 rfl (by kernel_rfl) (by kernel_rfl) (by kernel_rfl) (.held _ _ _ rfl rfl rfl) rfl rfl (qt_move rfl rfl) (fun _ _ _ h => h) ?_
  refine ga_v 16 rfl (by kernel_rfl) (by kernel_rfl) (by kernel_rfl) (.held _ _ _ rfl rfl rfl) rfl rfl (qt_index rfl rfl rfl ulE1 szE1 (fun w M => lenA_rd h2) (by omega) (by omega)) (fun _ _ _ h => h) ?_
  refine ga_v 17 rfl (by kernel_rfl) (by kernel_rfl) (by kernel_rfl) (.held _ _ _ rfl rfl rfl) rfl rfl (qt_load1 rfl rfl underlying2 rfl (fun w M => mem_rd M h2) (by omega) (by omega)) (fun _ _ _ h => h) ?_
  refine ga_v 18 rfl (by kernel_rfl) (by kernel_rfl) (by kernel_rfl) (.held _ _ _ rfl rfl rfl) rfl rfl (qt_build rfl rfl bt_arrowEnds) (fun _ _ _ h => h) ?_
  refine ga_op 7 (by kernel_rfl) rfl (.held _ _ _ rfl rfl rfl) fun K12 hK12 => ?_
  refine go_q rfl rfl (qt_call rfl func110 rfl (by decide) rfl (fun w M => ends_any w _ _ _ (mem_rdC M h0) (by first | assumption | omega) (by first | assumption | omega) (by first | assumption | omega))) ?_
  refine hK12 _ _ (fun w M => (mem_take 1 M :)) ?_
  refine ga_v 19 rfl (by kernel_rfl) (by kernel_rfl) (by kernel_rfl) (.held _ _ _ rfl rfl rfl) rfl rfl (qt_eqA rfl rfl rfl (fun w => eqA_arrowEnds _ _ _ _ w) eqG_arrowEnds) (fun _ _ _ h => h) ?_
  refine gav 20 rfl (qt_pick_t rfl rfl rfl) ?_
  refine gav 21 rfl (qt_assign rfl rfl) ?_
  refine ga_done (by kernel_rfl) ?_
  refine gk_then (hK8 _ _ ?_)
  refine gc_ret ?_
  refine ret_1 rfl rfl  (fun w M => ?_)
  refine ⟨?_, M.1⟩; rw [bP_eq_dec (p := okComp c f g)]; exact ⟨fun h => (h.1 hc0).2, fun h => ⟨fun _ => ⟨ha, h⟩, fun h2 => absurd hc0 h2⟩⟩
 try simp only [sA] at hs4_4
 refine ga_skip 5 rfl (by kernel_rfl) (by kernel_rfl) (by kernel_rfl) (.not _ _ _ _ rfl rfl rfl rfl) rfl rfl (fun _ _ _ h => h) ?_
 refine ga_skip 6 rfl (by kernel_rfl) (by kernel_rfl) (by kernel_rfl) (.not _ _ _ _ rfl rfl rfl rfl) rfl rfl (fun _ _ _ h => h) ?_
 refine ga_skip 8 rfl (by kernel_rfl) (by kernel_rfl) (by kernel_rfl) (.not _ _ _ _ rfl rfl rfl rfl) rfl rfl (fun _ _ _ h => h) ?_
 refine ga_skip 9 rfl (by kernel_rfl) (by kernel_rfl) (by kernel_rfl) (.not _ _ _ _ rfl rfl rfl rfl) rfl rfl (fun _ _ _ h => h) ?_
 refine ga_skip 10 rfl (by kernel_rfl) (by kernel_rfl) (by kernel_rfl) (.not _ _ _ _ rfl rfl rfl rfl) rfl rfl (fun _ _ _ h => h) ?_
 refine ga_skip 11 rfl (by kernel_rfl) (by kernel_rfl) (by kernel_rfl) (.not _ _ _ _ rfl rfl rfl rfl) rfl rfl (fun _ _ _ h => h) ?_
 refine ga_skip 12 rfl (by kernel_rfl) (by kernel_rfl) (by kernel_rfl) (.not _ _ _ _ rfl rfl rfl rfl) rfl rfl (fun _ _ _ h => h) ?_
 refine ga_skip 13 rfl (by kernel_rfl) (by kernel_rfl) (by kernel_rfl) (.not _ _ _ _ rfl rfl rfl rfl) rfl rfl (fun _ _ _ h => h) ?_
 refine ga_skip 14 rfl (by kernel_rfl) (by kernel_rfl) (by kernel_rfl) (.not _ _ _ _ rfl rfl rfl rfl) rfl rfl (fun _ _ _ h => h) ?_
 refine ga_skip 15 rfl (by kernel_rfl) (by kernel_rfl) (by kernel_rfl) (.not _ _ _ _ rfl rfl rfl rfl) rfl rfl (fun _ _ _ h => h) ?_
 refine ga_skip 16 rfl (by kernel_rfl) (by kernel_rfl) (by kernel_rfl) (.not _ _ _ _ rfl rfl rfl rfl) rfl rfl (fun _ _ _ h => h) ?_
 refine ga_skip 17 rfl (by kernel_rfl) (by kernel_rfl) (by kernel_rfl) (.not _ _ _ _ rfl rfl rfl rfl) rfl rfl (fun _ _ _ h => h) ?_
 refine ga_skip 18 rfl (by kernel_rfl) (by kernel_rfl) (by kernel_rfl) (.not _ _ _ _ rfl rfl rfl rfl) rfl rfl (fun _ _ _ h => h) ?_
 refine ga_skip 7 rfl (by kernel_rfl) (by kernel_rfl) (by kernel_rfl) (.not _ _ _ _ rfl rfl rfl rfl) rfl rfl (fun _ _ _ h => h) ?_
 refine ga_skip 19 rfl (by kernel_rfl) (by kernel_rfl) (by kernel_rfl) (.not _ _ _ _ rfl rfl rfl rfl) rfl rfl (fun _ _ _ h => h) ?_
 refine gav 20 rfl (qt_pick_f rfl rfl rfl) ?_
 refine gav 21 rfl (qt_assign rfl rfl) ?_
 refine ga_done (by kernel_rfl) ?_
 refine gk_then (hK8 _ _ ?_)
 refine gc_ret ?_
 refine ret_1 rfl rfl  (fun w M => ?_)
 rw [bP_f fun h : okComp c f g => bP_no' hs4_4 (allP_one.2 (h.1 hc0).1)]; exact ⟨rfl, M.1⟩
theorem hasComposites_w (w : World) (v : Value) (c : Cat) (h : RdC w v c) (hL : LenP c) (hR : RowsP c) :
  Calls Try.prog 93 #[v] w (RetB w (bP (∀ f g : Nat, f < c.s.length → g < c.s.length → okComp c f g))) := by
 have h0 := h
 obtain ⟨va, vb, vc, vd, ve, vf, vg, vh, rfl, h1, h2, h3, h4, _⟩ := h.lists
 have hn40 := hL.n40
 go_enter func93, Try.ntmps93
 refine gc_enter (N := 22) rfl (look_cons (k := 0) rfl (look_nil _)) ?_
 refine gc_sr fun K1 hK1 => ?_
 refine gop fun K3 hK3 => ?_
 refine go_box rfl rfl rfl rfl rfl ?_
 intro B2
 refine hK3 _ _ ?_
 refine gas ?_
 refine gnt (hK1 _ _ ?_)
 refine gc_seq fun K4 hK4 => ?_
 refine gc_sr fun K5 hK5 => ?_
 refine gv (qts underlying27 (n := 0)) ?_
 refine g_q (.free rfl) rfl rfl (qt_call rfl func31 rfl (by decide) rfl (fun w M => arrows_any w _ _ (mem_rdC M h0))) ?_
 refine gm ?_
 refine gnt (hK5 _ _ ?_)
 refine gc_block ?_
 try simp only [sL]
 refine gc_loopT ([(0, _), (1, _), (6, _)] : Env) (fun s : Nat => (fun (p : Nat) => (([(7, .int .i64 (p : Int))] : Env), ([] : List (Nat × Itm)), p ≤ c.s.length ∧ ∀ f g : Nat, f < p → g < c.s.length → okComp c f g, c.s.length - p)) s) (0) (by repeat first | exact sub_nil | refine sub_cons rfl ?_) rfl ⟨Nat.zero_le _, fun f g hf => absurd hf (by omega)⟩ ?_
 rintro p hinv KL6 hKL6
 simp only [sU, sL] at hinv hKL6 ⊢
 obtain ⟨hp, hco⟩ := hinv
 refine gc_sr fun K7 hK7 => ?_
 refine gv (qt_lss rfl rfl rfl) ?_
 refine gnt (hK7 _ _ ?_)
 refine gc_seq fun K8 hK8 => ?_
 refine gc_cond rfl (fun hc0 => ?_) (fun hc0 => ?_)
 ·try simp only [sA] at hc0
  refine gc_skip ?_
  refine gk_then (hK8 _ _ ?_)
  refine gc_seq fun K9 hK9 => ?_
  refine gc_block ?_
  refine gc_sr fun K10 hK10 => ?_
  refine gm ?_
  refine gas ?_
  refine gnt (hK10 _ _ ?_)
  refine gc_sr fun K11 hK11 => ?_
  refine gv (qts underlying27 (n := 0)) ?_
  refine g_q (.free rfl) rfl rfl (qt_call rfl func31 rfl (by decide) rfl (fun w M => arrows_any w _ _ (mem_rdC M h0))) ?_
  refine gm ?_
  refine gnt (hK11 _ _ ?_)
  refine gc_block ?_
  try simp only [sL]
  refine gc_loopT ([(0, _), (1, _), (3, _), (6, _), (7, _), (8, _), (11, _)] : Env) (fun s : Nat => (fun (q : Nat) => (([(12, .int .i64 (q : Int))] : Env), ([] : List (Nat × Itm)), q ≤ c.s.length ∧ ∀ g : Nat, g < q → okComp c p g, c.s.length - q)) s) (0) (by repeat first | exact sub_nil | refine sub_cons rfl ?_) rfl ⟨Nat.zero_le _, fun g hf => absurd hf (by omega)⟩ ?_
  rintro q hinv KL12 hKL12
  simp only [sU, sL] at hinv hKL12 ⊢
  obtain ⟨hq, hcp⟩ := hinv
  refine gc_sr fun K13 hK13 => ?_
  refine gv (qt_lss rfl rfl rfl) ?_
  refine gnt (hK13 _ _ ?_)
  refine gc_seq fun K14 hK14 => ?_
  refine gc_cond rfl (fun hc1 => ?_) (fun hc1 => ?_)
  ·try simp only [sA] at hc1
   refine gc_skip ?_
   refine gk_then (hK14 _ _ ?_)
   refine gc_seq fun K15 hK15 => ?_
   refine gc_block ?_
   refine gc_sr fun K16 hK16 => ?_
   refine gm ?_
   refine gas ?_
   refine gnt (hK16 _ _ ?_)
   refine gc_sr fun K17 hK17 => ?_
   refine gv (qts underlying27 (n := 0)) ?_
   refine gm ?_
   refine gm ?_
   refine g_q (.free rfl) rfl rfl (qt_call rfl func107 rfl (by decide) rfl (fun w M => fits_w w _ _ _ _ (mem_rdC M h0) (by first | assumption | omega) (by first | assumption | omega) (by first | assumption | omega) (by first | assumption | omega) (by first | assumption | omega) (by first | assumption | omega))) ?_
   refine gv (qt_not rfl rfl) ?_
   refine gnt (hK17 _ _ ?_)
   refine gc_cond rfl (fun hc2 => ?_) (fun hc2 => ?_)
   ·try simp only [sA] at hc2
    refine gc_sr fun K18 hK18 => ?_
    refine gas ?_
    refine gnt (hK18 _ _ ?_)
    refine gc_ret ?_
    refine gk_block_ret ?_
    refine gk_then_ret ?_
    refine gk_then_ret ?_
    refine gk_block_ret ?_
    refine gk_block_ret ?_
    refine gk_then_ret ?_
    refine gk_then_ret ?_
    refine gk_block_ret ?_
    refine gk_then_ret ?_
    refine ret_1 rfl rfl  (fun w M => ?_)
    rw [bP_f fun h => bP_no' hc2 (h p q (by omega) (by omega))]; exact ⟨rfl, M.1⟩
   try simp only [sA] at hc2
   refine gc_skip ?_
   refine gk_block ?_
   refine gk_then (hK15 _ _ ?_)
   refine gc_region ?_
   refine gv (qt_add rfl rfl rfl (by omega)) ?_
   refine gm ?_
   refine g_nil ?_
   refine gk_then (gk_take 1 ?_)
   refine gk_sub ?hs_19 (hKL12 (q + 1) ?hi_19 ?hm_19)
   case hs_19 => repeat first | exact sub_nil | refine sub_cons rfl ?_
   case hi_19 => exact ⟨by omega, all_next0 hcp (bP_yes' hc2)⟩
   case hm_19 => omega
  try simp only [sA] at hc1
  refine gc_exit ?_
  refine gk_then_exit ?_
  refine gk_then_exit ?_
  refine gk_block_hit ?_
  refine gk_block ?_
  refine gk_then (hK9 _ _ ?_)
  refine gc_region ?_
  refine gv (qt_add rfl rfl rfl (by omega)) ?_
  refine gm ?_
  refine g_nil ?_
  refine gk_then (gk_take 1 ?_)
  refine gk_sub ?hs_20 (hKL6 (p + 1) ?hi_20 ?hm_20)
  case hs_20 => repeat first | exact sub_nil | refine sub_cons rfl ?_
  case hi_20 => exact ⟨by omega, fun f g hf hg => by
   rcases Nat.lt_or_ge f p with h1 | h1
   ·exact hco f g h1 hg
   ·obtain rfl : f = p := by omega
    exact hcp g (by omega)⟩
  case hm_20 => omega
 try simp only [sA] at hc0
 refine gc_exit ?_
 refine gk_then_exit ?_
 refine gk_then_exit ?_
 refine gk_block_hit ?_
 refine gk_then (hK4 _ _ ?_)
 refine gc_sr fun K21 hK21 => ?_
 refine gas ?_
 refine gnt (hK21 _ _ ?_)
 refine gc_ret ?_
 refine ret_1 rfl rfl  (fun w M => ?_)
 rw [bP_t fun f g hf hg => hco f g (by omega) hg]; exact ⟨rfl, M.1⟩
theorem shapeP_mk {c : Cat} (h1 : LenP c ∧ RowsP c) (h2 : AllP c.ob c.s) (h3 : AllP c.ob c.t) (h4 : ∀ x : Nat, x < c.e.length → okIdent c x) : bP (∀ f g : Nat, f < c.s.length → g < c.s.length → okComp c f g) = fIsShape c :=
 bP_congr ⟨fun h => ⟨h1.1, h1.2, h2, h3, h4, h⟩, fun h => h.co⟩
def FrameP (c : Cat) : Prop := (LenP c ∧ RowsP c) ∧ AllP c.ob c.s ∧ AllP c.ob c.t ∧ ∀ x : Nat, x < c.e.length → okIdent c x
theorem frame_shape {c : Cat} (h : FrameP c) : bP (∀ f g : Nat, f < c.s.length → g < c.s.length → okComp c f g) = fIsShape c := shapeP_mk h.1 h.2.1 h.2.2.1 h.2.2.2
theorem shape_frame {c : Cat} (h : ShapeP c) : FrameP c := ⟨⟨h.toLenP, h.rl⟩, h.sa, h.ta, h.id⟩
theorem hasFrame_w (w : World) (v : Value) (c : Cat) (h : RdC w v c) :
  Calls Try.prog 92 #[v] w (RetB w (bP (FrameP c))) := by
 have h0 := h
 obtain ⟨va, vb, vc, vd, ve, vf, vg, vh, rfl, h1, h2, h3, h4, _⟩ := h.lists
 go_enter func92, Try.ntmps92
 refine gc_enter (N := 21) rfl (look_cons (k := 0) rfl (look_nil _)) ?_
 refine gc_sr fun K1 hK1 => ?_
 refine gop fun K3 hK3 => ?_
 refine go_box rfl rfl rfl rfl rfl ?_
 intro B2
 refine hK3 _ _ ?_
 refine gas ?_
 refine gnt (hK1 _ _ ?_)
 refine gc_sr fun K4 hK4 => ?_
 refine gv (qts underlying27 (n := 0)) ?_
 refine g_q (.free rfl) rfl rfl (qt_call rfl func105 rfl (by decide) rfl (fun w M => hasLengths_any w _ _ _ (mem_rdC M h0) rfl)) ?_
 refine g_splitv (.free rfl) rfl rfl (qt_move rfl rfl) (fun hs1_2 => ?_) (fun hs1_2 => ?_)
 ·try simp only [sA] at hs1_2
  refine gvh (qts underlying27 (n := 0)) ?_
  refine gvh (qtf underlying27 (z := 0) (off := 1)) ?_
  refine gvh (qtl underlying24 (n := 0)) ?_
  refine g_q (.held _ _ _ rfl rfl rfl) rfl rfl (qt_call rfl func63 rfl (by decide) rfl (fun w M => hasObjects_any w _ _ _ _ _ (mem_rdC M h0) (mem_rd M h1) rfl)) ?_
  refine gv (qt_pick_t rfl rfl rfl) ?_
  refine g_splitv (.free rfl) rfl rfl (qt_move rfl rfl) (fun hs1_8 => ?_) (fun hs1_8 => ?_)
  ·try simp only [sA] at hs1_8
   refine gvh (qts underlying27 (n := 0)) ?_
   refine gvh (qtf underlying27 (z := 0) (off := 2)) ?_
   refine gvh (qtl underlying24 (n := 0)) ?_
   refine g_q (.held _ _ _ rfl rfl rfl) rfl rfl (qt_call rfl func63 rfl (by decide) rfl (fun w M => hasObjects_any w _ _ _ _ _ (mem_rdC M h0) (mem_rd M h2) rfl)) ?_
   refine gv (qt_pick_t rfl rfl rfl) ?_
   refine g_splitv (.free rfl) rfl rfl (qt_move rfl rfl) (fun hs1_14 => ?_) (fun hs1_14 => ?_)
   ·try simp only [sA] at hs1_14
    refine gvh (qts underlying27 (n := 0)) ?_
    refine g_q (.held _ _ _ rfl rfl rfl) rfl rfl (qt_call rfl func106 rfl (by decide) rfl (fun w M => hasIdentities_any w _ _ _ (mem_rdC M h0) (bP_yes' hs1_2).1 rfl)) ?_
    refine gv (qt_pick_t rfl rfl rfl) ?_
    refine gas ?_
    refine gnt (hK4 _ _ ?_)
    refine gc_ret ?_
    refine ret_1 rfl rfl  (fun w M => ?_)
    rw [show bP (FrameP c) = bP (∀ x : Nat, x < c.e.length → okIdent c x) from bP_congr ⟨fun h => h.2.2.2, fun h4 => ⟨bP_yes' hs1_2, bP_yes' hs1_8, bP_yes' hs1_14, h4⟩⟩]; exact ⟨rfl, M.1⟩
   try simp only [sA] at hs1_14
   refine gsk ?_
   refine gsk ?_
   refine gv (qt_pick_f rfl rfl rfl) ?_
   refine gas ?_
   refine gnt (hK4 _ _ ?_)
   refine gc_ret ?_
   refine ret_1 rfl rfl  (fun w M => ?_)
   rw [bP_f fun h : FrameP c => bP_no' hs1_14 h.2.2.1]; exact ⟨rfl, M.1⟩
  try simp only [sA] at hs1_8
  refine gsk ?_
  refine gsk ?_
  refine gsk ?_
  refine gsk ?_
  refine gv (qt_pick_f rfl rfl rfl) ?_
  refine gm ?_
  refine gsk ?_
  refine gsk ?_
  refine gv (qt_pick_f rfl rfl rfl) ?_
  refine gas ?_
  refine gnt (hK4 _ _ ?_)
  refine gc_ret ?_
  refine ret_1 rfl rfl  (fun w M => ?_)
  rw [bP_f fun h : FrameP c => bP_no' hs1_8 h.2.1]; exact ⟨rfl, M.1⟩
 try simp only [sA] at hs1_2
 refine gsk ?_
 refine gsk ?_
 refine gsk ?_
 refine gsk ?_
 refine gv (qt_pick_f rfl rfl rfl) ?_
 refine gm ?_
 refine gsk ?_
 refine gsk ?_
 refine gsk ?_
 refine gsk ?_
 refine gv (qt_pick_f rfl rfl rfl) ?_
 refine gm ?_
 refine gsk ?_
 refine gsk ?_
 refine gv (qt_pick_f rfl rfl rfl) ?_
 refine gas ?_
 refine gnt (hK4 _ _ ?_)
 refine gc_ret ?_
 refine ret_1 rfl rfl  (fun w M => ?_)
 rw [bP_f fun h : FrameP c => bP_no' hs1_2 h.1]; exact ⟨rfl, M.1⟩
theorem impl_IsShape (w : World) (v : Value) (c : Cat) (h : RdC w v c) :
  Calls Try.prog 77 #[v] w (RetB w (fIsShape c)) := by
 have h0 := h
 obtain ⟨va, vb, vc, vd, ve, vf, vg, vh, rfl, h1, h2, h3, h4, _⟩ := h.lists
 go_enter func77, Try.ntmps77
 refine gc_enter (N := 9) rfl (look_cons (k := 0) rfl (look_nil _)) ?_
 refine gc_sr fun K1 hK1 => ?_
 refine gop fun K3 hK3 => ?_
 refine go_box rfl rfl rfl rfl rfl ?_
 intro B2
 refine hK3 _ _ ?_
 refine gas ?_
 refine gnt (hK1 _ _ ?_)
 refine gc_sr fun K4 hK4 => ?_
 refine gv (qts underlying27 (n := 0)) ?_
 refine g_q (.free rfl) rfl rfl (qt_call rfl func92 rfl (by decide) rfl (fun w M => hasFrame_w w _ _ (mem_rdC M h0))) ?_
 refine g_splitv (.free rfl) rfl rfl (qt_move rfl rfl) (fun hs1_2 => ?_) (fun hs1_2 => ?_)
 ·try simp only [sA] at hs1_2
  refine gvh (qts underlying27 (n := 0)) ?_
  refine g_q (.held _ _ _ rfl rfl rfl) rfl rfl (qt_call rfl func93 rfl (by decide) rfl (fun w M => hasComposites_w w _ _ (mem_rdC M h0) (bP_yes' hs1_2).1.1 (bP_yes' hs1_2).1.2)) ?_
  refine gv (qt_pick_t rfl rfl rfl) ?_
  refine gas ?_
  refine gnt (hK4 _ _ ?_)
  refine gc_ret ?_
  refine ret_1 rfl rfl  (fun w M => ?_)
  rw [← frame_shape (bP_yes' hs1_2)]; exact ⟨rfl, M.1⟩
 try simp only [sA] at hs1_2
 refine gsk ?_
 refine gsk ?_
 refine gv (qt_pick_f rfl rfl rfl) ?_
 refine gas ?_
 refine gnt (hK4 _ _ ?_)
 refine gc_ret ?_
 refine ret_1 rfl rfl  (fun w M => ?_)
 rw [show fIsShape c = false from bP_f fun h => bP_no' hs1_2 (shape_frame h)]; exact ⟨rfl, M.1⟩
end Go.Proofs.Ytbiplocgenppoaa
