
/- TupleNumber: the program and its model. -/
import Derived.Test.YtdgffiilalabeaaTupAt
set_option linter.unusedSimpArgs false
set_option linter.unusedVariables false
set_option linter.unusedSectionVars false
namespace Go.Proofs.Ytdgffiilalabeaa
open Go.RowKit

def TupP (s t : List Int) : Prop := s.length = t.length ∧ ∀ j, j < t.length → 0 ≤ t.getD j 0 ∧ t.getD j 0 < s.getD j 0
def tupB (s t : List Int) : Bool := decide (s.length = t.length) && (List.range t.length).all fun j => decide (0 ≤ t.getD j 0 ∧ t.getD j 0 < s.getD j 0)
theorem tupB_iff (s t : List Int) : tupB s t = true ↔ TupP s t := by
  simp only [tupB, Bool.and_eq_true, decide_eq_true_eq, List.all_eq_true, List.mem_range, TupP]
instance (s t : List Int) : Decidable (TupP s t) := decidable_of_iff _ (tupB_iff s t)
def numTo (s t : List Int) : Nat → Int
  | 0 => 0
  | k + 1 => numTo s t k * s.getD k 0 + t.getD k 0
def fTupleNumber (s t : List Int) : Int × Int :=
  if SizesP s then (if TupP s t then (if totalV s = -1 then (0, 3) else (numTo s t t.length, 0)) else (0, 1)) else (0, 2)

theorem tup_nz {s t : List Int} (h : TupP s t) : 0 ∉ s := fun hm => by
  obtain ⟨j, hj, he⟩ := List.getElem_of_mem hm
  have := h.2 j (by rw [← h.1]; exact hj)
  rw [List.getD_eq_getElem?_getD (l := s), List.getElem?_eq_getElem hj] at this
  simp [he] at this
  omega

theorem num_bound {s t : List Int} (h : TupP s t) (hs : SizesP s) : ∀ k, k ≤ t.length → 0 ≤ numTo s t k ∧ numTo s t k + 1 ≤ prodTo s k := by
  intro k
  induction k with
  | zero => intro _; simp [numTo, prodTo]
  | succ k ih =>
    intro hk
    have h1 := ih (by omega)
    have h2 := h.2 k (by omega)
    simp only [numTo, prodTo]
    have h3 := Int.mul_nonneg h1.1 (show 0 ≤ s.getD k 0 by omega)
    have h4 := Int.mul_le_mul_of_nonneg_right h1.2 (show 0 ≤ s.getD k 0 by omega)
    rw [Int.add_mul, Int.one_mul] at h4
    omega

theorem tup_not {s t : List Int} {k : Nat} (hk : k < t.length) (h : ¬ (0 ≤ t.getD k 0 ∧ t.getD k 0 < s.getD k 0)) : ¬ TupP s t := fun h' => h (h'.2 k hk)

set_option maxHeartbeats 800000 in
set_option maxRecDepth 100000 in
theorem isTuple_any (w : World) (v u : Value) (s t : List Int) (b : Bool) (hs : Rd w v s) (ht : Rd w u t) (hb : decide (TupP s t) = b) :
    Calls Try.prog 102 #[v, u] w (RetB w b) := by
  obtain ⟨a1, cap1, rfl, l1, k1⟩ := hs
  obtain ⟨a2, cap2, rfl, l2, k2⟩ := ht
  have K1 := Lib.hid k1; have K2 := Lib.hid k2; clear k1 k2
  by_cases hlen : s.length = t.length
  · have e1 : ((t.length : Int) != (s.length : Int)) = false := by simp [hlen]
    have hle := Nat.le_of_eq hlen
    have hle' := Nat.le_of_eq hlen.symm
    have HB := Lib.hid hb; have HL := Lib.hid hlen; clear hb hlen
    go_enter Try.func102, Try.ntmps102
    go_wp2
    go_loopw [14] (fun i wr => ∃ k : Nat, k ≤ t.length ∧ i = .int .i64 k ∧ Hid (∀ j, j < k → 0 ≤ t.getD j 0 ∧ t.getD j 0 < s.getD j 0) ∧ Below w.heap.size w wr) (fun i _ => t.length - (intOf i).toNat)
    case atStart => exact ⟨0, Nat.zero_le _, rfl, fun j hj => absurd hj (by omega), Below.refl _ _⟩
    case round =>
      obtain ⟨k, hk, rfl, hall, hbel⟩ := hrel
      by_cases hlt : k < t.length
      · have hlt2 : k < s.length := by omega
        obtain ⟨b1, o1, rfl, hb1', cell1⟩ := K1.out k hlt2
        obtain ⟨b2, o2, rfl, hb2', cell2⟩ := K2.out k hlt
        have c1 : wr.cell? ⟨b1, o1 + k, none⟩ = some (.int .i64 (s.getD k 0)) := (hbel.cell (p := ⟨b1, o1 + k, none⟩) hb1').trans (cell1 k hlt2)
        have c2 : wr.cell? ⟨b2, o2 + k, none⟩ = some (.int .i64 (t.getD k 0)) := (hbel.cell (p := ⟨b2, o2 + k, none⟩) hb2').trans (cell2 k hlt)
        clear cell1 cell2
        have htn := tup_not (s := s) hlt
        obtain ⟨x, hxd⟩ : ∃ x, x = s.getD k 0 := ⟨_, rfl⟩
        obtain ⟨y, hyd⟩ : ∃ y, y = t.getD k 0 := ⟨_, rfl⟩
        rw [← hxd] at c1 htn
        rw [← hyd] at c2 htn
        have HXD := Lib.hid hxd; have HYD := Lib.hid hyd; clear hxd hyd
        have i1 : (k : Int) < (s.length : Int) := by omega
        have i2 : (k : Int) < (t.length : Int) := by omega
        have i3 : (0 : Int) ≤ (k : Int) := by omega
        by_cases h0 : y < 0
        · obtain rfl := bF HB.out (htn (by omega))
          clear htn
          go_wp2
          go_ret
          exact ⟨rfl, hbel⟩
        · by_cases h1 : x ≤ y
          · obtain rfl := bF HB.out (htn (by omega))
            clear htn
            go_wp2
            go_ret
            exact ⟨rfl, hbel⟩
          · clear htn
            go_wp2
            go_roundw
            case rel =>
              refine ⟨k + 1, by omega, by go_num, fun j hj => ?_, hbel⟩
              by_cases hjk : j = k
              · subst hjk; rw [← HXD.out, ← HYD.out]; omega
              · exact hall.out j (by omega)
            case measure => simp [intOf]; omega
      · obtain rfl : k = t.length := by omega
        obtain rfl := bT HB.out ⟨HL.out, hall.out⟩
        go_wp2
        go_ret
        exact ⟨rfl, hbel⟩
  · obtain rfl := bF hb (fun h => hlen h.1)
    have e1 : ((t.length : Int) != (s.length : Int)) = true := by rw [bne_iff_ne]; omega
    clear hb hlen
    go_enter Try.func102, Try.ntmps102
    go_wp2
    go_ret
    exact ⟨rfl, Below.refl _ _⟩

theorem tup_fits {s t : List Int} (h : TupP s t) (ht : totalV s ≠ -1) : FitsTo s s.length ∧ totalV s = prodTo s s.length := by
  have h0 := tup_nz h
  by_cases hf : (List.range (s.length + 1)).all (fun j => decide (prodTo s j ≤ M)) = true
  · have h2 := (fits_iff s _).1 hf
    exact ⟨h2, total_fits h0 h2⟩
  · exact absurd (by unfold totalV; rw [if_neg h0, if_neg hf]) ht

set_option maxHeartbeats 1600000 in
set_option maxRecDepth 100000 in
theorem impl_TupleNumber (w : World) (v : Value) (s : List Int) (u : Value) (t : List Int) (hs : Rd w v s) (ht : Rd w u t) :
    Calls Try.prog 35 #[v, u] w (RetII w (fTupleNumber s t).1 (fTupleNumber s t).2) := by
  unfold fTupleNumber
  have Rs := hs; have Rt := ht
  obtain ⟨a1, cap1, rfl, l1, k1⟩ := hs
  obtain ⟨a2, cap2, rfl, l2, k2⟩ := ht
  have K1 := Lib.hid k1; have K2 := Lib.hid k2; clear k1 k2
  by_cases hz : SizesP s
  · rw [if_pos hz]
    have D := Lib.hid (decide_eq_true hz); have HSZ := Lib.hid hz; clear hz
    by_cases htp : TupP s t
    · rw [if_pos htp]
      have hle := Nat.le_of_eq htp.1
      have hle' := Nat.le_of_eq htp.1.symm
      have E := Lib.hid (decide_eq_true htp); have HTP := Lib.hid htp; clear htp
      by_cases htv : totalV s = -1
      · rw [if_pos htv]
        have hcv : countV s = (0, false) := by rw [countV, if_pos htv]
        have HCV := Lib.hid hcv; clear hcv htv
        go_enter Try.func35, Try.ntmps35
        go_wp2_with fail
        refine (implSizes_any _ _ _ true Rs D.out).mono ?_; rintro e w1 ⟨rfl, hb1⟩
        go_wp2_with fail
        refine (isTuple_any _ _ _ _ _ true (rd_below hb1 Rs) (rd_below hb1 Rt) E.out).mono ?_; rintro e w2 ⟨rfl, hb2⟩
        have hb := hb1.trans (hb2.mono hb1.size)
        go_wp2_with fail
        refine (implCount_any _ _ _ (rd_below hb Rs) HSZ.out).mono ?_; rw [HCV.out]; rintro e w3 ⟨rfl, hb3⟩
        go_wp2
        go_ret2
        exact ⟨rfl, hb.trans (hb3.mono hb.size)⟩
      · rw [if_neg htv]
        have hft := tup_fits HTP.out htv
        have hcv : countV s = (totalV s, true) := by rw [countV, if_neg htv]
        obtain ⟨tv, htd⟩ : ∃ tv, tv = totalV s := ⟨_, rfl⟩
        rw [← htd] at hcv
        have HCV := Lib.hid hcv; have HF := Lib.hid hft.1; clear htd htv hft hcv
        go_enter Try.func35, Try.ntmps35
        go_wp2_with fail
        refine (implSizes_any _ _ _ true Rs D.out).mono ?_; rintro e w1 ⟨rfl, hb1⟩
        go_wp2_with fail
        refine (isTuple_any _ _ _ _ _ true (rd_below hb1 Rs) (rd_below hb1 Rt) E.out).mono ?_; rintro e w2 ⟨rfl, hb2⟩
        have hb := hb1.trans (hb2.mono hb1.size)
        go_wp2_with fail
        refine (implCount_any _ _ _ (rd_below hb Rs) HSZ.out).mono ?_; rw [HCV.out]; rintro e w3 ⟨rfl, hb3⟩
        have hbx := hb.trans (hb3.mono hb.size)
        go_wp2
        go_loopw [8, 27] (fun c i wr => ∃ k : Nat, k ≤ t.length ∧ i = .int .i64 k ∧ c = .int .i64 (numTo s t k) ∧ Below w.heap.size w wr) (fun _ i _ => t.length - (intOf i).toNat)
        case atStart => exact ⟨0, Nat.zero_le _, rfl, rfl, hbx⟩
        case round =>
          obtain ⟨k, hk, rfl, rfl, hbel⟩ := hrel
          by_cases hlt : k < t.length
          · have hlt2 : k < s.length := by omega
            obtain ⟨b1, o1, rfl, hb1', cell1⟩ := K1.out k hlt2
            obtain ⟨b2, o2, rfl, hb2', cell2⟩ := K2.out k hlt
            have c1 : wr.cell? ⟨b1, o1 + k, none⟩ = some (.int .i64 (s.getD k 0)) := (hbel.cell (p := ⟨b1, o1 + k, none⟩) hb1').trans (cell1 k hlt2)
            have c2 : wr.cell? ⟨b2, o2 + k, none⟩ = some (.int .i64 (t.getD k 0)) := (hbel.cell (p := ⟨b2, o2 + k, none⟩) hb2').trans (cell2 k hlt)
            have hnb := num_bound HTP.out HSZ.out k (by omega)
            have hfit := HF.out k (by omega)
            have hx := size_pos HSZ.out (tup_nz HTP.out) hlt2
            have hy := HTP.out.2 k hlt
            have hsucc : numTo s t (k + 1) = numTo s t k * s.getD k 0 + t.getD k 0 := rfl
            obtain ⟨x, hxd⟩ : ∃ x, x = s.getD k 0 := ⟨_, rfl⟩
            obtain ⟨y, hyd⟩ : ∃ y, y = t.getD k 0 := ⟨_, rfl⟩
            obtain ⟨n, hnd⟩ : ∃ n, n = numTo s t k := ⟨_, rfl⟩
            rw [← hxd] at c1 hx hy hsucc
            rw [← hyd] at c2 hy hsucc
            rw [← hnd] at hnb hsucc
            rw [← hnd]
            unfold M at hfit
            have hp : 0 ≤ n * x := Int.mul_nonneg hnb.1 (by omega)
            have hp2 : n * x ≤ 1000000000000 * 256 := Int.mul_le_mul (by omega) hx.2 (by omega) (by omega)
            have hwr : IntKind.i64.wrap (n * x) = n * x := IntWalk.i64_in _ (by omega)
            have hwr2 : IntKind.i64.wrap (n * x + y) = n * x + y := IntWalk.i64_in _ (by omega)
            have hwr3 : wrap64 (n * x) = n * x := IntWalk.wrap64_in _ (by omega)
            have hwr4 : wrap64 (n * x + y) = n * x + y := IntWalk.wrap64_in _ (by omega)
            have HSUCC := Lib.hid hsucc; clear hsucc hxd hyd hnd cell1 cell2 hfit
            have i1 : (k : Int) < (s.length : Int) := by omega
            have i2 : (k : Int) < (t.length : Int) := by omega
            have i3 : (0 : Int) ≤ (k : Int) := by omega
            go_wp2
            go_roundw
            case rel => exact ⟨k + 1, by omega, by go_num, by rw [HSUCC.out], hbel⟩
            case measure => simp [intOf]; omega
          · obtain rfl : k = t.length := by omega
            go_wp2
            go_ret2
            exact ⟨rfl, hbel⟩
    · rw [if_neg htp]
      have E := Lib.hid (decide_eq_false htp); clear htp
      go_enter Try.func35, Try.ntmps35
      go_wp2_with fail
      refine (implSizes_any _ _ _ true Rs D.out).mono ?_; rintro e w1 ⟨rfl, hb1⟩
      go_wp2_with fail
      refine (isTuple_any _ _ _ _ _ false (rd_below hb1 Rs) (rd_below hb1 Rt) E.out).mono ?_; rintro e w2 ⟨rfl, hb2⟩
      go_wp2
      go_ret2
      exact ⟨rfl, hb1.trans (hb2.mono hb1.size)⟩
  · rw [if_neg hz]
    have D := Lib.hid (decide_eq_false hz); clear hz
    go_enter Try.func35, Try.ntmps35
    go_wp2_with fail
    refine (implSizes_any _ _ _ false Rs D.out).mono ?_; rintro e w1 ⟨rfl, hb1⟩
    go_wp2
    go_ret2
    exact ⟨rfl, hb1⟩

end Go.Proofs.Ytdgffiilalabeaa
