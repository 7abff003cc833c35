
/- The program's test of identities and of composites. -/
import Derived.Test.YtakifeiemcldlaaHas
namespace Go.Proofs.Ytakifeiemcldlaa
open Go.RowKit

set_option maxHeartbeats 800000 in
set_option maxRecDepth 100000 in
theorem hasIdentities_any (w : World) (v : Value) (c : Cat) (b : Bool) (h : RdC w v c) (hL : LenP c) (hb : bP (∀ x : Nat, x < c.e.length → okIdent c x) = b) :
    Calls Try.prog 56 #[v] w (RetB w b) := by
  have HV := Lib.hid h
  obtain ⟨x1, x2, x3, x4, k1, k2, k3, k4, rfl, _, _, he, _, l1, l2, l3, l4⟩ := h.lists
  have HE := Lib.hid he
  have HLP := Lib.hid hL
  clear h he hL
  have HB := Lib.hid hb; clear hb
  go_enter Try.func56, Try.ntmps56
  go_wp2
  go_loopw [3, 4, 8] (fun _ _ i wr => ∃ k : Nat, k ≤ c.e.length ∧ i = .int .i64 k ∧ Hid (∀ j, j < k → okIdent c j) ∧ Hid (Bx wr w.heap.size 28 [.int .i64 c.ob, .slice x1 c.s.length k1, .slice x2 c.t.length k2, .slice x3 c.e.length k3, .slice x4 c.m.length k4]) ∧ Below w.heap.size w wr) (fun _ _ i _ => c.e.length - (intOf i).toNat)
  case atStart => exact ⟨0, Nat.zero_le _, rfl, fun j hj => absurd hj (by omega), bx_new _ _ _, (Below.refl _ _).alloc (Nat.le_refl _) _⟩
  case round =>
    obtain ⟨k, hk, rfl, hall, hbx, hbel⟩ := hrel
    by_cases hlt : k < c.e.length
    · obtain ⟨bb, off, rfl, hbs, hcell⟩ := rd_at HE.out (x := (k : Int)) (by omega) (by omega)
      have c1 : wr.cell? ⟨bb, off + k, none⟩ = some (.int .i64 (at0 c.e k)) := (hbel.cell (p := ⟨bb, off + k, none⟩) hbs).trans (by simpa using hcell)
      have c2 := bx5 hbx.out
      clear hcell
      obtain ⟨x, hx⟩ : ∃ x, x = at0 c.e k := ⟨_, rfl⟩
      rw [← hx] at c1
      have hfin : okIdent c k ↔ c.arr x ∧ at0 c.s x = k ∧ at0 c.t x = k := by unfold okIdent; rw [← hx]
      have HF := Lib.hid hfin; clear hx hfin
      go_wp2_with fail
      generalize hW : World.alloc _ _ = W
      have hn0 : Below wr.heap.size wr W := by rw [← hW]; exact (Below.refl _ _).alloc (Nat.le_refl _) _
      have d1 : W.cell? ⟨wr.heap.size, 0, none⟩ = some (.int .i64 x) := by rw [← hW, World.cell?_alloc_at _ _ _ _ rfl]; rfl
      have d2 : wr.heap.size < W.heap.size := by rw [← hW]; simp
      clear hW
      have R1 := rd_one d2 d1
      have X1 := Lib.hid (bx_below hn0 hbx.out)
      have hb1 := hbel.trans (hn0.mono hbel.size)
      by_cases ha : c.arr x
      · refine (hasArrows_any _ _ _ c [x] true (rdC_below hb1 HV.out) R1 (bP_t (allP_one.2 ha))).mono ?_; rintro e w1 ⟨rfl, hn1⟩
        have X2 := Lib.hid (bx_below hn1 X1.out)
        have hb2 := hb1.trans (hn1.mono hb1.size)
        clear d1 d2 R1 X1 hn0 hb1 hn1 hbx c2 c1
        have c2 := bx5 X2.out
        obtain ⟨a0, a1⟩ := ha
        have a2 : x < c.t.length := by have := HLP.out.tl; omega
        go_wp2_with fail
        refine (ends_any _ _ c x (rdC_below hb2 HV.out) a0 a1 a2).mono ?_; rintro e w2 ⟨rfl, hn2⟩
        have X3 := Lib.hid (bx_below hn2 X2.out)
        have hb3 := hb2.trans (hn2.mono hb2.size)
        clear hn2 X2 c2 hb2
        by_cases hq : at0 c.s x = k ∧ at0 c.t x = k
        · have hok : Hid (okIdent c k) := HF.out.2 ⟨⟨a0, a1⟩, hq⟩
          obtain ⟨e1, e2⟩ := hq
          rw [e1, e2]
          clear e1 e2
          go_wp2
          go_roundw
          case rel =>
            refine ⟨k + 1, by omega, by go_num, fun j hj => ?_, X3, hb3⟩
            by_cases hjk : j = k
            · subst hjk; exact hok.out
            · exact hall.out j (by omega)
          case measure => simp [intOf]; omega
        · obtain rfl : b = false := by rw [← HB.out]; exact bP_f fun hh => hq (HF.out.1 (hh k hlt)).2
          generalize at0 c.s x = y at hq ⊢
          generalize at0 c.t x = z at hq ⊢
          by_cases hy : y = k
          · have hz : z ≠ k := fun hz => hq ⟨hy, hz⟩
            have t1 : (y == (k : Int)) = true := by simp [hy]
            have t2 : (z == (k : Int)) = false := by simpa using hz
            clear hq hy hz
            go_wp2
            go_ret
            exact ⟨rfl, hb3⟩
          · have t1 : (y == (k : Int)) = false := by simpa using hy
            clear hq hy
            go_wp2
            go_ret
            exact ⟨rfl, hb3⟩
      · obtain rfl : b = false := by rw [← HB.out]; exact bP_f fun hh => ha (HF.out.1 (hh k hlt)).1
        refine (hasArrows_any _ _ _ c [x] false (rdC_below hb1 HV.out) R1 (bP_f fun hh => ha (allP_one.1 hh))).mono ?_; rintro e w1 ⟨rfl, hn1⟩
        have hb2 := hb1.trans (hn1.mono hb1.size)
        clear d1 d2 R1 X1 hn0 hb1 hn1 hbx c2 c1 ha
        go_wp2
        go_ret
        exact ⟨rfl, hb2⟩
    · obtain rfl : k = c.e.length := by omega
      obtain rfl : b = true := by rw [← HB.out]; exact bP_t hall.out
      go_wp2
      go_ret
      exact ⟨rfl, hbel⟩

end Go.Proofs.Ytakifeiemcldlaa
