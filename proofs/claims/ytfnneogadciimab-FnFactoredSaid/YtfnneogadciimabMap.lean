
/- Numbers of elements, and what a map is: the program's own test and the model's. | The error of a map. | The error of two maps from one set. -/
import Derived.Test.YtfnneogadciimabBase
set_option linter.unusedSimpArgs false
set_option linter.unusedVariables false
set_option linter.unusedSectionVars false
namespace Go.Proofs.Ytfnneogadciimab
open Go.RowKit

def SizeP (n : Int) : Prop := 0 ≤ n ∧ n ≤ 256
instance (n : Int) : Decidable (SizeP n) := inferInstanceAs (Decidable (_ ∧ _))
def AllP (n : Int) (xs : List Int) : Prop := ∀ x ∈ xs, 0 ≤ x ∧ x < n
instance (n : Int) (xs : List Int) : Decidable (AllP n xs) := inferInstanceAs (Decidable (∀ x ∈ xs, _))
def MapP (n : Int) (xs : List Int) : Prop := SizeP n ∧ xs.length ≤ 256 ∧ AllP n xs
instance (n : Int) (xs : List Int) : Decidable (MapP n xs) := inferInstanceAs (Decidable (_ ∧ _))

theorem mem_getD {xs : List Int} {k : Nat} (hk : k < xs.length) : xs.getD k 0 ∈ xs := by
  rw [List.getD_eq_getElem?_getD, List.getElem?_eq_getElem hk]; exact List.getElem_mem hk

theorem allP_of {n : Int} {xs : List Int} (h : ∀ j, j < xs.length → 0 ≤ xs.getD j 0 ∧ xs.getD j 0 < n) : AllP n xs := by
  intro x hx
  obtain ⟨j, hj, rfl⟩ := List.getElem_of_mem hx
  have := h j hj
  simpa [List.getD_eq_getElem?_getD, List.getElem?_eq_getElem hj] using this

def Same (W : World) (v : Value) (e : Ending) (w' : World) : Prop := e = .returned v ∧ W = w'

theorem bT {p : Prop} [Decidable p] {b : Bool} (hb : decide p = b) (h : p) : b = true := by rw [← hb]; exact decide_eq_true h
theorem bF {p : Prop} [Decidable p] {b : Bool} (hb : decide p = b) (h : ¬ p) : b = false := by rw [← hb]; exact decide_eq_false h

theorem specIn_any (w : World) (n lo hi : Int) (b : Bool) (hb : decide (lo ≤ n ∧ n ≤ hi) = b) :
    Calls Try.prog 126 #[.int .i64 n, .int .i64 lo, .int .i64 hi] w (Same w (.bool b)) := by
  by_cases h1 : lo ≤ n
  · by_cases h2 : n ≤ hi
    · obtain rfl := bT hb ⟨h1, h2⟩
      clear hb
      go_enter Try.func126, Try.ntmps126
      go_wp2
      go_ret
      exact ⟨rfl, rfl⟩
    · obtain rfl := bF hb (by omega)
      clear hb
      go_enter Try.func126, Try.ntmps126
      go_wp2
      go_ret
      exact ⟨rfl, rfl⟩
  · obtain rfl := bF hb (by omega)
    clear hb
    go_enter Try.func126, Try.ntmps126
    go_wp2
    go_ret
    exact ⟨rfl, rfl⟩

theorem specSize_any (w : World) (n : Int) (b : Bool) (hb : decide (SizeP n) = b) :
    Calls Try.prog 77 #[.int .i64 n] w (Same w (.bool b)) := by
  go_enter Try.func77, Try.ntmps77
  go_wp2_with (go_at_call 126; refine (specIn_any _ _ _ _ b hb).mono ?_; rintro e w1 ⟨rfl, rfl⟩)
  go_ret
  exact ⟨rfl, rfl⟩

theorem implSize_any (w : World) (n : Int) (b : Bool) (hb : decide (SizeP n) = b) :
    Calls Try.prog 80 #[.int .i64 n] w (Same w (.bool b)) := by
  unfold SizeP at hb
  by_cases h1 : 0 ≤ n
  · by_cases h2 : n ≤ 256
    · obtain rfl := bT hb ⟨h1, h2⟩
      clear hb
      go_enter Try.func80, Try.ntmps80
      go_wp2
      go_ret
      exact ⟨rfl, rfl⟩
    · obtain rfl := bF hb (by omega)
      clear hb
      go_enter Try.func80, Try.ntmps80
      go_wp2
      go_ret
      exact ⟨rfl, rfl⟩
  · obtain rfl := bF hb (by omega)
    clear hb
    go_enter Try.func80, Try.ntmps80
    go_wp2
    go_ret
    exact ⟨rfl, rfl⟩

set_option maxHeartbeats 400000 in
theorem specMap_any (w : World) (n : Int) (v : Value) (xs : List Int) (b : Bool) (h : Rd w v xs) (hb : decide (AllP n xs) = b) :
    Calls Try.prog 127 #[.int .i64 n, v] w (RetB w b) := by
  obtain ⟨a, cap, rfl, hl, hc⟩ := h
  have HC := Lib.hid hc; clear hc
  have HB := Lib.hid hb; clear hb
  go_enter Try.func127, Try.ntmps127
  go_wp2
  go_loopw [5] (fun i wr => ∃ k : Nat, k ≤ xs.length ∧ i = .int .i64 k ∧ Hid (∀ j, j < k → 0 ≤ xs.getD j 0 ∧ xs.getD j 0 < n) ∧ Below w.heap.size w wr) (fun i _ => xs.length - (intOf i).toNat)
  case atStart => exact ⟨0, Nat.zero_le _, rfl, fun j hj => absurd hj (by omega), Below.refl _ _⟩
  case round =>
    obtain ⟨k, hk, rfl, hall, hbel⟩ := hrel
    by_cases hlt : k < xs.length
    · obtain ⟨bb, off, rfl, hbs, hcell⟩ := HC.out k hlt
      have c1 : wr.cell? ⟨bb, off + k, none⟩ = some (.int .i64 (xs.getD k 0)) := (hbel.cell (p := ⟨bb, off + k, none⟩) hbs).trans (hcell k hlt)
      clear hcell
      obtain ⟨x, hx⟩ : ∃ x, x = xs.getD k 0 := ⟨_, rfl⟩
      rw [← hx] at c1
      have HX := Lib.hid hx; clear hx
      by_cases h0 : x < 0
      · have hf : b = false := by
          rw [← HB.out, decide_eq_false_iff_not]
          intro hall'
          have := hall' _ (mem_getD hlt)
          rw [← HX.out] at this
          omega
        subst hf
        go_wp2
        go_ret
        exact ⟨rfl, hbel⟩
      · by_cases h1 : n ≤ x
        · have hf : b = false := by
            rw [← HB.out, decide_eq_false_iff_not]
            intro hall'
            have := hall' _ (mem_getD hlt)
            rw [← HX.out] at this
            omega
          subst hf
          go_wp2
          go_ret
          exact ⟨rfl, hbel⟩
        · go_wp2
          go_roundw
          case rel =>
            refine ⟨k + 1, by omega, by go_num, fun j hj => ?_, hbel⟩
            by_cases hjk : j = k
            · subst hjk; rw [← HX.out]; omega
            · exact hall.out j (by omega)
          case measure => simp [intOf]; omega
    · obtain rfl : k = xs.length := by omega
      have ht : b = true := by
        rw [← HB.out, decide_eq_true_iff]
        exact allP_of hall.out
      subst ht
      go_wp2
      go_ret
      exact ⟨rfl, hbel⟩

set_option maxHeartbeats 400000 in
theorem specIsMap_any (w : World) (n : Int) (v : Value) (xs : List Int) (b : Bool) (h : Rd w v xs) (hb : decide (MapP n xs) = b) :
    Calls Try.prog 78 #[.int .i64 n, v] w (RetB w b) := by
  have H := Lib.hid h
  obtain ⟨a, cap, rfl, hl, _⟩ := h
  by_cases h1 : SizeP n
  · by_cases h2 : xs.length ≤ 256
    · have hb' : decide (AllP n xs) = b := by
        rw [← hb]; simp [MapP, h1, h2]
      have HB := Lib.hid hb'; clear hb hb'
      go_enter Try.func78, Try.ntmps78
      go_wp2_with (first
        | (go_at_call 77; refine (specSize_any _ _ true (decide_eq_true h1)).mono ?_; rintro e w1 ⟨rfl, rfl⟩)
        | (go_at_call 127; refine (specMap_any _ _ _ _ b H.out HB.out).mono ?_; rintro e w1 ⟨rfl, hb1⟩))
      go_ret
      exact ⟨rfl, hb1⟩
    · obtain rfl := bF hb (fun hm => h2 hm.2.1)
      clear hb
      go_enter Try.func78, Try.ntmps78
      go_wp2_with (go_at_call 77; refine (specSize_any _ _ true (decide_eq_true h1)).mono ?_; rintro e w1 ⟨rfl, rfl⟩)
      go_ret
      exact ⟨rfl, Below.refl _ _⟩
  · obtain rfl := bF hb (fun hm => h1 hm.1)
    clear hb
    go_enter Try.func78, Try.ntmps78
    go_wp2_with (go_at_call 77; refine (specSize_any _ _ false (decide_eq_false h1)).mono ?_; rintro e w1 ⟨rfl, rfl⟩)
    go_ret
    exact ⟨rfl, Below.refl _ _⟩

set_option maxHeartbeats 400000 in
theorem implIsMap_any (w : World) (n : Int) (v : Value) (xs : List Int) (b : Bool) (h : Rd w v xs) (hb : decide (MapP n xs) = b) :
    Calls Try.prog 43 #[.int .i64 n, v] w (RetB w b) := by
  obtain ⟨a, cap, rfl, hl, hc⟩ := h
  have HC := Lib.hid hc; clear hc
  by_cases h1 : SizeP n
  · by_cases h2 : xs.length ≤ 256
    · have hb' : decide (AllP n xs) = b := by
        rw [← hb]; simp [MapP, h1, h2]
      have HB := Lib.hid hb'; clear hb hb'
      go_enter Try.func43, Try.ntmps43
      go_wp2_with (go_at_call 80; refine (implSize_any _ _ true (decide_eq_true h1)).mono ?_; rintro e w1 ⟨rfl, rfl⟩)
      go_loopw [17] (fun i wr => ∃ k : Nat, k ≤ xs.length ∧ i = .int .i64 k ∧ Hid (∀ j, j < k → 0 ≤ xs.getD j 0 ∧ xs.getD j 0 < n) ∧ Below w.heap.size w wr) (fun i _ => xs.length - (intOf i).toNat)
      case atStart => exact ⟨0, Nat.zero_le _, rfl, fun j hj => absurd hj (by omega), Below.refl _ _⟩
      case round =>
        obtain ⟨k, hk, rfl, hall, hbel⟩ := hrel
        by_cases hlt : k < xs.length
        · obtain ⟨bb, off, rfl, hbs, hcell⟩ := HC.out k hlt
          have c1 : wr.cell? ⟨bb, off + k, none⟩ = some (.int .i64 (xs.getD k 0)) := (hbel.cell (p := ⟨bb, off + k, none⟩) hbs).trans (hcell k hlt)
          clear hcell
          obtain ⟨x, hx⟩ : ∃ x, x = xs.getD k 0 := ⟨_, rfl⟩
          rw [← hx] at c1
          have HX := Lib.hid hx; clear hx
          by_cases h0 : x < 0
          · have hf : b = false := by
              rw [← HB.out, decide_eq_false_iff_not]
              intro hall'
              have := hall' _ (mem_getD hlt)
              rw [← HX.out] at this
              omega
            subst hf
            go_wp2
            go_ret
            exact ⟨rfl, hbel⟩
          · by_cases h1 : n ≤ x
            · have hf : b = false := by
                rw [← HB.out, decide_eq_false_iff_not]
                intro hall'
                have := hall' _ (mem_getD hlt)
                rw [← HX.out] at this
                omega
              subst hf
              go_wp2
              go_ret
              exact ⟨rfl, hbel⟩
            · go_wp2
              go_roundw
              case rel =>
                refine ⟨k + 1, by omega, by go_num, fun j hj => ?_, hbel⟩
                by_cases hjk : j = k
                · subst hjk; rw [← HX.out]; omega
                · exact hall.out j (by omega)
              case measure => simp [intOf]; omega
        · obtain rfl : k = xs.length := by omega
          have ht : b = true := by
            rw [← HB.out, decide_eq_true_iff]
            exact allP_of hall.out
          subst ht
          go_wp2
          go_ret
          exact ⟨rfl, hbel⟩
    · obtain rfl := bF hb (fun hm => h2 hm.2.1)
      clear hb
      go_enter Try.func43, Try.ntmps43
      go_wp2_with (go_at_call 80; refine (implSize_any _ _ true (decide_eq_true h1)).mono ?_; rintro e w1 ⟨rfl, rfl⟩)
      go_ret
      exact ⟨rfl, Below.refl _ _⟩
  · obtain rfl := bF hb (fun hm => h1 hm.1)
    clear hb
    go_enter Try.func43, Try.ntmps43
    go_wp2_with (go_at_call 80; refine (implSize_any _ _ false (decide_eq_false h1)).mono ?_; rintro e w1 ⟨rfl, rfl⟩)
    go_ret
    exact ⟨rfl, Below.refl _ _⟩

def fIsMap (n : Int) (xs : List Int) : Bool := decide (MapP n xs)
theorem spec_IsMap (w : World) (n : Int) (v : Value) (xs : List Int) (h : Rd w v xs) : Calls Try.prog 78 #[.int .i64 n, v] w (RetB w (fIsMap n xs)) := specIsMap_any w n v xs _ h rfl
theorem impl_IsMap (w : World) (n : Int) (v : Value) (xs : List Int) (h : Rd w v xs) : Calls Try.prog 43 #[.int .i64 n, v] w (RetB w (fIsMap n xs)) := implIsMap_any w n v xs _ h rfl

end Go.Proofs.Ytfnneogadciimab

namespace Go.Proofs.Ytfnneogadciimab
open Go.RowKit

theorem ret_i {a b : Int} (h : a = b) : Ending.returned (.int .i64 a) = .returned (.int .i64 b) := by rw [h]

def codeM (n : Int) (xs : List Int) : Int := if SizeP n then (if MapP n xs then 0 else 1) else 2

set_option maxHeartbeats 400000 in
theorem specCode_any (w : World) (n : Int) (v : Value) (xs : List Int) (c : Int) (h : Rd w v xs) (hc : codeM n xs = c) :
    Calls Try.prog 82 #[.int .i64 n, v] w (RetI w c) := by
  by_cases h1 : SizeP n
  · by_cases h2 : MapP n xs
    · obtain rfl : c = 0 := by rw [← hc]; simp [codeM, h1, h2]
      clear hc
      have D1 := Lib.hid (decide_eq_true h1); have D2 := Lib.hid (decide_eq_true h2); clear h1 h2
      go_enter Try.func82, Try.ntmps82
      go_wp2_with (first
        | (go_at_call 77; refine (specSize_any _ _ true D1.out).mono ?_; rintro e w1 ⟨rfl, rfl⟩)
        | (go_at_call 78; refine (specIsMap_any _ _ _ _ true h D2.out).mono ?_; rintro e w1 ⟨rfl, hb1⟩))
      go_ret
      exact ⟨rfl, hb1⟩
    · obtain rfl : c = 1 := by rw [← hc]; simp [codeM, h1, h2]
      clear hc
      have D1 := Lib.hid (decide_eq_true h1); have D2 := Lib.hid (decide_eq_false h2); clear h1 h2
      go_enter Try.func82, Try.ntmps82
      go_wp2_with (first
        | (go_at_call 77; refine (specSize_any _ _ true D1.out).mono ?_; rintro e w1 ⟨rfl, rfl⟩)
        | (go_at_call 78; refine (specIsMap_any _ _ _ _ false h D2.out).mono ?_; rintro e w1 ⟨rfl, hb1⟩))
      go_ret
      exact ⟨rfl, hb1⟩
  · obtain rfl : c = 2 := by rw [← hc]; simp [codeM, h1]
    clear hc
    have D1 := Lib.hid (decide_eq_false h1); clear h1
    go_enter Try.func82, Try.ntmps82
    go_wp2_with (go_at_call 77; refine (specSize_any _ _ false D1.out).mono ?_; rintro e w1 ⟨rfl, rfl⟩)
    go_ret
    exact ⟨rfl, Below.refl _ _⟩

set_option maxHeartbeats 400000 in
theorem implCode_any (w : World) (n : Int) (v : Value) (xs : List Int) (c : Int) (h : Rd w v xs) (hc : codeM n xs = c) :
    Calls Try.prog 84 #[.int .i64 n, v] w (RetI w c) := by
  by_cases h1 : SizeP n
  · by_cases h2 : MapP n xs
    · obtain rfl : c = 0 := by rw [← hc]; simp [codeM, h1, h2]
      clear hc
      have D1 := Lib.hid (decide_eq_true h1); have D2 := Lib.hid (decide_eq_true h2); clear h1 h2
      go_enter Try.func84, Try.ntmps84
      go_wp2_with (first
        | (go_at_call 80; refine (implSize_any _ _ true D1.out).mono ?_; rintro e w1 ⟨rfl, rfl⟩)
        | (go_at_call 43; refine (implIsMap_any _ _ _ _ true h D2.out).mono ?_; rintro e w1 ⟨rfl, hb1⟩))
      go_ret
      exact ⟨rfl, hb1⟩
    · obtain rfl : c = 1 := by rw [← hc]; simp [codeM, h1, h2]
      clear hc
      have D1 := Lib.hid (decide_eq_true h1); have D2 := Lib.hid (decide_eq_false h2); clear h1 h2
      go_enter Try.func84, Try.ntmps84
      go_wp2_with (first
        | (go_at_call 80; refine (implSize_any _ _ true D1.out).mono ?_; rintro e w1 ⟨rfl, rfl⟩)
        | (go_at_call 43; refine (implIsMap_any _ _ _ _ false h D2.out).mono ?_; rintro e w1 ⟨rfl, hb1⟩))
      go_ret
      exact ⟨rfl, hb1⟩
  · obtain rfl : c = 2 := by rw [← hc]; simp [codeM, h1]
    clear hc
    have D1 := Lib.hid (decide_eq_false h1); clear h1
    go_enter Try.func84, Try.ntmps84
    go_wp2_with (go_at_call 80; refine (implSize_any _ _ false D1.out).mono ?_; rintro e w1 ⟨rfl, rfl⟩)
    go_ret
    exact ⟨rfl, Below.refl _ _⟩

/-- The indices below k that a test takes. -/
def idxs (p : Nat → Bool) (k : Nat) : List Int := ((List.range k).filter p).map (fun (j : Nat) => (j : Int))
theorem idxs_yes {p : Nat → Bool} {k : Nat} (h : p k = true) : idxs p (k + 1) = idxs p k ++ [(k : Int)] := by
  simp [idxs, List.range_succ, h]
theorem idxs_no {p : Nat → Bool} {k : Nat} (h : p k = false) : idxs p (k + 1) = idxs p k := by
  simp [idxs, List.range_succ, h]
theorem idxs_len (p : Nat → Bool) (k : Nat) : (idxs p k).length ≤ k := by
  simpa [idxs] using List.length_filter_le p (List.range k)

end Go.Proofs.Ytfnneogadciimab

namespace Go.Proofs.Ytfnneogadciimab
open Go.RowKit

def codeTwo (n : Int) (f g : List Int) : Int := if codeM n f = 0 then (if MapP n g ∧ f.length = g.length then 0 else 1) else codeM n f

set_option maxHeartbeats 800000 in
set_option maxRecDepth 100000 in
theorem specTwo_any (w : World) (n : Int) (v u : Value) (f g : List Int) (c : Int) (hf : Rd w v f) (hg : Rd w u g) (hc : codeTwo n f g = c) :
    Calls Try.prog 110 #[.int .i64 n, v, u] w (RetI w c) := by
  unfold codeTwo at hc
  have Rf := hf
  have Rg := hg
  obtain ⟨a1, cap1, rfl, l1, _⟩ := hf
  obtain ⟨a2, cap2, rfl, l2, _⟩ := hg
  by_cases h0 : codeM n f = 0
  · rw [if_pos h0] at hc
    have hs : SizeP n := by
      by_cases hs : SizeP n
      · exact hs
      · simp [codeM, hs] at h0
    have H0 := Lib.hid h0; clear h0
    by_cases hm : MapP n g
    · have HG : Hid (codeM n g = 0) := by exact Lib.hid (by simp [codeM, hs, hm])
      by_cases hl : f.length = g.length
      · rw [if_pos ⟨hm, hl⟩] at hc
        subst hc
        have e1 : ((f.length : Int) != (g.length : Int)) = false := by simp [hl]
        clear hl hm
        go_enter Try.func110, Try.ntmps110
        go_wp2_with fail
        refine (specCode_any _ _ _ _ 0 Rf H0.out).mono ?_; rintro e w1 ⟨rfl, hb1⟩
        go_wp2_with fail
        refine (specCode_any _ _ _ _ 0 (rd_below hb1 Rg) HG.out).mono ?_; rintro e w2 ⟨rfl, hb2⟩
        go_wp2
        go_ret
        exact ⟨rfl, hb1.trans (hb2.mono hb1.size)⟩
      · rw [if_neg (fun h => hl h.2)] at hc
        subst hc
        have e1 : ((f.length : Int) != (g.length : Int)) = true := by rw [bne_iff_ne]; omega
        clear hl hm
        go_enter Try.func110, Try.ntmps110
        go_wp2_with fail
        refine (specCode_any _ _ _ _ 0 Rf H0.out).mono ?_; rintro e w1 ⟨rfl, hb1⟩
        go_wp2_with fail
        refine (specCode_any _ _ _ _ 0 (rd_below hb1 Rg) HG.out).mono ?_; rintro e w2 ⟨rfl, hb2⟩
        go_wp2
        go_ret
        exact ⟨rfl, hb1.trans (hb2.mono hb1.size)⟩
    · have HG : Hid (codeM n g = 1) := by exact Lib.hid (by simp [codeM, hs, hm])
      rw [if_neg (fun h => hm h.1)] at hc
      subst hc
      clear hm
      go_enter Try.func110, Try.ntmps110
      go_wp2_with fail
      refine (specCode_any _ _ _ _ 0 Rf H0.out).mono ?_; rintro e w1 ⟨rfl, hb1⟩
      go_wp2_with fail
      refine (specCode_any _ _ _ _ 1 (rd_below hb1 Rg) HG.out).mono ?_; rintro e w2 ⟨rfl, hb2⟩
      go_wp2
      go_ret
      exact ⟨rfl, hb1.trans (hb2.mono hb1.size)⟩
  · rw [if_neg h0] at hc
    have HC := Lib.hid hc
    have e1 : (c == 0) = false := by rw [← hc]; simpa using h0
    have e2 : (c != 0) = true := by rw [← hc]; simpa using h0
    clear hc h0
    go_enter Try.func110, Try.ntmps110
    go_wp2_with fail
    refine (specCode_any _ _ _ _ c Rf HC.out).mono ?_; rintro e w1 ⟨rfl, hb1⟩
    go_wp2
    go_ret
    exact ⟨rfl, hb1⟩

set_option maxHeartbeats 800000 in
set_option maxRecDepth 100000 in
theorem implTwo_any (w : World) (n : Int) (v u : Value) (f g : List Int) (c : Int) (hf : Rd w v f) (hg : Rd w u g) (hc : codeTwo n f g = c) :
    Calls Try.prog 108 #[.int .i64 n, v, u] w (RetI w c) := by
  unfold codeTwo at hc
  have Rf := hf
  have Rg := hg
  obtain ⟨a1, cap1, rfl, l1, _⟩ := hf
  obtain ⟨a2, cap2, rfl, l2, _⟩ := hg
  by_cases h0 : codeM n f = 0
  · rw [if_pos h0] at hc
    have hs : SizeP n := by
      by_cases hs : SizeP n
      · exact hs
      · simp [codeM, hs] at h0
    have H0 := Lib.hid h0; clear h0
    by_cases hm : MapP n g
    · have HG : Hid (decide (MapP n g) = true) := by exact Lib.hid (decide_eq_true hm)
      by_cases hl : f.length = g.length
      · rw [if_pos ⟨hm, hl⟩] at hc
        subst hc
        have e1 : ((f.length : Int) != (g.length : Int)) = false := by simp [hl]
        clear hl hm
        go_enter Try.func108, Try.ntmps108
        go_wp2_with fail
        refine (implCode_any _ _ _ _ 0 Rf H0.out).mono ?_; rintro e w1 ⟨rfl, hb1⟩
        go_wp2_with fail
        refine (implIsMap_any _ _ _ _ true (rd_below hb1 Rg) HG.out).mono ?_; rintro e w2 ⟨rfl, hb2⟩
        go_wp2
        go_ret
        exact ⟨rfl, hb1.trans (hb2.mono hb1.size)⟩
      · rw [if_neg (fun h => hl h.2)] at hc
        subst hc
        have e1 : ((f.length : Int) != (g.length : Int)) = true := by rw [bne_iff_ne]; omega
        clear hl hm
        go_enter Try.func108, Try.ntmps108
        go_wp2_with fail
        refine (implCode_any _ _ _ _ 0 Rf H0.out).mono ?_; rintro e w1 ⟨rfl, hb1⟩
        go_wp2_with fail
        refine (implIsMap_any _ _ _ _ true (rd_below hb1 Rg) HG.out).mono ?_; rintro e w2 ⟨rfl, hb2⟩
        go_wp2
        go_ret
        exact ⟨rfl, hb1.trans (hb2.mono hb1.size)⟩
    · have HG : Hid (decide (MapP n g) = false) := by exact Lib.hid (decide_eq_false hm)
      rw [if_neg (fun h => hm h.1)] at hc
      subst hc
      clear hm
      go_enter Try.func108, Try.ntmps108
      go_wp2_with fail
      refine (implCode_any _ _ _ _ 0 Rf H0.out).mono ?_; rintro e w1 ⟨rfl, hb1⟩
      go_wp2_with fail
      refine (implIsMap_any _ _ _ _ false (rd_below hb1 Rg) HG.out).mono ?_; rintro e w2 ⟨rfl, hb2⟩
      go_wp2
      go_ret
      exact ⟨rfl, hb1.trans (hb2.mono hb1.size)⟩
  · rw [if_neg h0] at hc
    have HC := Lib.hid hc
    have e1 : (c == 0) = false := by rw [← hc]; simpa using h0
    have e2 : (c != 0) = true := by rw [← hc]; simpa using h0
    clear hc h0
    go_enter Try.func108, Try.ntmps108
    go_wp2_with fail
    refine (implCode_any _ _ _ _ c Rf HC.out).mono ?_; rintro e w1 ⟨rfl, hb1⟩
    go_wp2
    go_ret
    exact ⟨rfl, hb1⟩

end Go.Proofs.Ytfnneogadciimab
