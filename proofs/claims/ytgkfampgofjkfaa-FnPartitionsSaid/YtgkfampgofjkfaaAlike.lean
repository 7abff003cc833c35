
/- The laws' own helpers on drawn data: comparing two lists, a bound on the code; bytes from outside. -/
import Derived.Test.YtgkfampgofjkfaaBase
import Derived.Test.YtgkfampgofjkfaaDraw
set_option linter.unusedSimpArgs false
set_option linter.unusedVariables false
set_option linter.unusedSectionVars false
namespace Go.Proofs.Ytgkfampgofjkfaa
open Go.RowKit
open Go.ChangeShapes Go.WideShapes Go.ChangeAt

set_option maxHeartbeats 400000 in
theorem like_any (w : World) (v1 v2 : Value) (xs ys : List Int) (h1 : Rd w v1 xs) (h2 : Rd w v2 ys) :
    Calls Try.prog 29 #[v1, v2] w (RetB w (decide (xs = ys))) := by
  obtain ⟨a, cap, rfl, hl, hc⟩ := h1
  obtain ⟨a2, cap2, rfl, hl2, hc2⟩ := h2
  by_cases hne : xs.length = ys.length
  · have hcmp : ((ys.length : Int) != (ys.length : Int)) = false := by simp
    rw [hne] at hl
    have HNE := Lib.hid hne; clear hne
    have HC := Lib.hid hc; clear hc
    have HC2 := Lib.hid hc2; clear hc2
    rw [HNE.out]
    go_enter Try.func29, Try.ntmps29
    go_wp2
    go_loopw [5] (fun i wr => ∃ k : Nat, k ≤ ys.length ∧ i = .int .i64 k ∧ Hid (∀ j, j < k → xs.getD j 0 = ys.getD j 0) ∧ Below w.heap.size w wr) (fun i _ => ys.length - (intOf i).toNat)
    case atStart => exact ⟨0, Nat.zero_le _, rfl, fun j hj => absurd hj (by omega), Below.refl _ _⟩
    case round =>
      obtain ⟨k, hk, rfl, hall, hbel⟩ := hrel
      by_cases hlt : k < ys.length
      · obtain ⟨b, off, rfl, hb, hcell⟩ := HC.out k (by rw [HNE.out]; exact hlt)
        obtain ⟨b2, off2, rfl, hb2, hcell2⟩ := HC2.out k hlt
        have c1 : wr.cell? ⟨b, off + k, none⟩ = some (.int .i64 (xs.getD k 0)) := (hbel.cell (p := ⟨b, off + k, none⟩) hb).trans (hcell k (by rw [HNE.out]; exact hlt))
        have c2 : wr.cell? ⟨b2, off2 + k, none⟩ = some (.int .i64 (ys.getD k 0)) := (hbel.cell (p := ⟨b2, off2 + k, none⟩) hb2).trans (hcell2 k hlt)
        clear hcell hcell2 hb hb2
        obtain ⟨x, hx⟩ : ∃ x, x = xs.getD k 0 := ⟨_, rfl⟩
        obtain ⟨y, hy⟩ : ∃ y, y = ys.getD k 0 := ⟨_, rfl⟩
        rw [← hx] at c1
        rw [← hy] at c2
        have HX := Lib.hid hx; clear hx
        have HY := Lib.hid hy; clear hy
        by_cases hxy : x = y
        · subst hxy
          go_wp2
          go_quiet (fail)
          go_wp2
          go_roundw
          case rel =>
            refine ⟨k + 1, by omega, by go_num, fun j hj => ?_, below_quiet hbel⟩
            by_cases hjk : j = k
            · rw [hjk, ← HX.out, ← HY.out]
            · exact hall.out j (by omega)
          case measure => simp [intOf]; omega
        · have hb1 : (x != y) = true := by simpa using hxy
          have hfin : decide (xs = ys) = false := by
            rw [decide_eq_false_iff_not]
            exact list_ne_at (k := k) (by rw [HNE.out]; exact hlt) (by rw [← HX.out, ← HY.out]; exact hxy)
          have HF := Lib.hid hfin; clear hfin hxy
          go_wp2
          go_quiet (fail)
          go_wp2
          go_ret
          rw [HF.out]
          exact ⟨rfl, below_quiet hbel⟩
      · have hfin : decide (xs = ys) = true := by
          rw [decide_eq_true_iff]
          exact list_eq_all HNE.out (fun j hj => hall.out j (by have := HNE.out; omega))
        have HF := Lib.hid hfin; clear hfin
        go_wp2
        go_ret
        rw [HF.out]
        exact ⟨rfl, hbel⟩
  · have hfin : decide (xs = ys) = false := by
      rw [decide_eq_false_iff_not]
      exact fun e => hne (by rw [e])
    have hb1 : ((xs.length : Int) != (ys.length : Int)) = true := by
      rw [bne_iff_ne]; omega
    have HF := Lib.hid hfin; clear hfin hne hc hc2
    go_enter Try.func29, Try.ntmps29
    go_wp2
    go_ret
    rw [HF.out]
    exact ⟨rfl, Below.refl _ _⟩


theorem like_refl_any (w : World) (v1 v2 : Value) (xs : List Int) (h1 : Rd w v1 xs) (h2 : Rd w v2 xs) :
    Calls Try.prog 29 #[v1, v2] w (RetB w true) := by
  have := like_any w v1 v2 xs xs h1 h2
  simpa using this

theorem big_any (w : World) (v : Value) (h : InB w v) : Calls Try.prog 25 #[v] w (fun e w' => (∃ b, e = .returned (.bool b)) ∧ Below w.heap.size w w') := by
  obtain ⟨a, len, cap, rfl, hl, hc⟩ := h
  clear hc
  go_enter Try.func25, Try.ntmps25
  go_wp2
  go_ret
  exact ⟨⟨_, rfl⟩, Below.refl _ _⟩

set_option maxRecDepth 100000 in
theorem cells8 : Try.prog.cellsOf 5 = 1 := by kernel_rfl

set_option maxRecDepth 100000 in
theorem open_inb {H : Type} {enc : TypeId × Value → H} {w : World} {v : Value} {d : DataW H} {ps : List MemPlace} {base : Nat}
    (hv : Value.okWide Try.prog w .any base 44 v) (h : DataW.Trod enc Try.prog w 0 (fun _ => true) true 44 v d ps) : InB w v := by
  obtain ⟨a0, len, cap, rfl⟩ := okWide_slice Try.underlying44 hv
  obtain ⟨fuel, hf⟩ := h
  rcases open_ints Try.underlying44 Try.underlying5 cells8 hf with ⟨hcs, _⟩ | ⟨a, len', cap', zs, hcs, _, hl, hm, hz, _, hcell, hwz⟩
  · simp [Value.cells] at hcs
    obtain ⟨rfl, rfl, rfl⟩ := hcs
    exact ⟨none, 0, 0, rfl, by omega, fun j hj => absurd hj (Nat.not_lt_zero _)⟩
  · simp [Value.cells] at hcs
    obtain ⟨rfl, rfl, rfl⟩ := hcs
    simp only [if_true] at hz
    refine ⟨some a, len, cap, rfl, by unfold maxLen at hm; omega, fun j hj => ?_⟩
    obtain ⟨b, off, spot⟩ := a
    have hspot : spot = none := by simpa [Addr.add] using World.cell?_spot (hcell 0 (by omega))
    subst hspot
    refine ⟨b, off, rfl, World.block_lt_of_cell? w _ (by simpa using hcell 0 (by omega)), fun i hi => ?_⟩
    have hh := hcell i (by omega)
    rw [Addr.add_lit] at hh
    have hw := hwz (zs.getD i 0) (by rw [List.getD_eq_getElem?_getD, List.getElem?_eq_getElem (by omega)]; exact List.getElem_mem _)
    refine ⟨_, hh, ?_⟩
    have hw2 : IntKind.u8.min ≤ zs.getD i 0 ∧ zs.getD i 0 ≤ IntKind.u8.max := by simpa [Lit.wf] using hw
    have m1 : IntKind.u8.min = 0 := by decide
    have m2 : IntKind.u8.max = 255 := by decide
    omega
end Go.Proofs.Ytgkfampgofjkfaa
