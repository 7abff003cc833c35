
/- Numbers of elements, and what a map is: the program's own test and the model's. | The error of a map. | The error of two maps from one set. -/
import Derived.Test.YtgkfampgofjkfaaBase
set_option linter.unusedSimpArgs false
set_option linter.unusedVariables false
set_option linter.unusedSectionVars false
namespace Go.Proofs.Ytgkfampgofjkfaa
open Go.RowKit

def SizeP (n : Int) : Prop := 0 ≤ n ∧ n ≤ 256
instance (n : Int) : Decidable (SizeP n) := inferInstanceAs (Decidable (_ ∧ _))
def AllP (n : Int) (xs : List Int) : Prop := ∀ x ∈ xs, 0 ≤ x ∧ x < n
instance (n : Int) (xs : List Int) : Decidable (AllP n xs) := inferInstanceAs (Decidable (∀ x ∈ xs, _))
def MapP (n : Int) (xs : List Int) : Prop := SizeP n ∧ xs.length ≤ 256 ∧ AllP n xs
instance (n : Int) (xs : List Int) : Decidable (MapP n xs) := inferInstanceAs (Decidable (_ ∧ _))

theorem mem_getD {xs : List Int} {k : Nat} (hk : k < xs.length) : xs.getD k 0 ∈ xs := by
  rw [List.getD_eq_getElem?_getD, List.getElem?_eq_getElem hk]; exact List.getElem_mem hk

theorem allP_of {n : Int} {xs : List Int} (h : ∀ j, j < xs.length → 0 ≤ xs.getD j 0 ∧ xs.getD j 0 < n) : AllP n xs := by
  intro x hx
  obtain ⟨j, hj, rfl⟩ := List.getElem_of_mem hx
  have := h j hj
  simpa [List.getD_eq_getElem?_getD, List.getElem?_eq_getElem hj] using this

def Same (W : World) (v : Value) (e : Ending) (w' : World) : Prop := e = .returned v ∧ W = w'

theorem bT {p : Prop} [Decidable p] {b : Bool} (hb : decide p = b) (h : p) : b = true := by rw [← hb]; exact decide_eq_true h
theorem bF {p : Prop} [Decidable p] {b : Bool} (hb : decide p = b) (h : ¬ p) : b = false := by rw [← hb]; exact decide_eq_false h

theorem specIn_any (w : World) (n lo hi : Int) (b : Bool) (hb : decide (lo ≤ n ∧ n ≤ hi) = b) :
    Calls Try.prog 90 #[.int .i64 n, .int .i64 lo, .int .i64 hi] w (Same w (.bool b)) := by
  by_cases h1 : lo ≤ n
  · by_cases h2 : n ≤ hi
    · obtain rfl := bT hb ⟨h1, h2⟩
      clear hb
      go_enter Try.func90, Try.ntmps90
      go_wp2
      go_ret
      exact ⟨rfl, rfl⟩
    · obtain rfl := bF hb (by omega)
      clear hb
      go_enter Try.func90, Try.ntmps90
      go_wp2
      go_ret
      exact ⟨rfl, rfl⟩
  · obtain rfl := bF hb (by omega)
    clear hb
    go_enter Try.func90, Try.ntmps90
    go_wp2
    go_ret
    exact ⟨rfl, rfl⟩

theorem implSize_any (w : World) (n : Int) (b : Bool) (hb : decide (SizeP n) = b) :
    Calls Try.prog 62 #[.int .i64 n] w (Same w (.bool b)) := by
  unfold SizeP at hb
  by_cases h1 : 0 ≤ n
  · by_cases h2 : n ≤ 256
    · obtain rfl := bT hb ⟨h1, h2⟩
      clear hb
      go_enter Try.func62, Try.ntmps62
      go_wp2
      go_ret
      exact ⟨rfl, rfl⟩
    · obtain rfl := bF hb (by omega)
      clear hb
      go_enter Try.func62, Try.ntmps62
      go_wp2
      go_ret
      exact ⟨rfl, rfl⟩
  · obtain rfl := bF hb (by omega)
    clear hb
    go_enter Try.func62, Try.ntmps62
    go_wp2
    go_ret
    exact ⟨rfl, rfl⟩

set_option maxHeartbeats 400000 in
theorem specMap_any (w : World) (n : Int) (v : Value) (xs : List Int) (b : Bool) (h : Rd w v xs) (hb : decide (AllP n xs) = b) :
    Calls Try.prog 68 #[.int .i64 n, v] w (RetB w b) := by
  obtain ⟨a, cap, rfl, hl, hc⟩ := h
  have HC := Lib.hid hc; clear hc
  have HB := Lib.hid hb; clear hb
  go_enter Try.func68, Try.ntmps68
  go_wp2
  go_loopw [5] (fun i wr => ∃ k : Nat, k ≤ xs.length ∧ i = .int .i64 k ∧ Hid (∀ j, j < k → 0 ≤ xs.getD j 0 ∧ xs.getD j 0 < n) ∧ Below w.heap.size w wr) (fun i _ => xs.length - (intOf i).toNat)
  case atStart => exact ⟨0, Nat.zero_le _, rfl, fun j hj => absurd hj (by omega), Below.refl _ _⟩
  case round =>
    obtain ⟨k, hk, rfl, hall, hbel⟩ := hrel
    by_cases hlt : k < xs.length
    · obtain ⟨bb, off, rfl, hbs, hcell⟩ := HC.out k hlt
      have c1 : wr.cell? ⟨bb, off + k, none⟩ = some (.int .i64 (xs.getD k 0)) := (hbel.cell (p := ⟨bb, off + k, none⟩) hbs).trans (hcell k hlt)
      clear hcell
      obtain ⟨x, hx⟩ : ∃ x, x = xs.getD k 0 := ⟨_, rfl⟩
      rw [← hx] at c1
      have HX := Lib.hid hx; clear hx
      by_cases h0 : x < 0
      · have hf : b = false := by
          rw [← HB.out, decide_eq_false_iff_not]
          intro hall'
          have := hall' _ (mem_getD hlt)
          rw [← HX.out] at this
          omega
        subst hf
        go_wp2
        go_ret
        exact ⟨rfl, hbel⟩
      · by_cases h1 : n ≤ x
        · have hf : b = false := by
            rw [← HB.out, decide_eq_false_iff_not]
            intro hall'
            have := hall' _ (mem_getD hlt)
            rw [← HX.out] at this
            omega
          subst hf
          go_wp2
          go_ret
          exact ⟨rfl, hbel⟩
        · go_wp2
          go_roundw
          case rel =>
            refine ⟨k + 1, by omega, by go_num, fun j hj => ?_, hbel⟩
            by_cases hjk : j = k
            · subst hjk; rw [← HX.out]; omega
            · exact hall.out j (by omega)
          case measure => simp [intOf]; omega
    · obtain rfl : k = xs.length := by omega
      have ht : b = true := by
        rw [← HB.out, decide_eq_true_iff]
        exact allP_of hall.out
      subst ht
      go_wp2
      go_ret
      exact ⟨rfl, hbel⟩

set_option maxHeartbeats 400000 in
theorem implIsMap_any (w : World) (n : Int) (v : Value) (xs : List Int) (b : Bool) (h : Rd w v xs) (hb : decide (MapP n xs) = b) :
    Calls Try.prog 63 #[.int .i64 n, v] w (RetB w b) := by
  obtain ⟨a, cap, rfl, hl, hc⟩ := h
  have HC := Lib.hid hc; clear hc
  by_cases h1 : SizeP n
  · by_cases h2 : xs.length ≤ 256
    · have hb' : decide (AllP n xs) = b := by
        rw [← hb]; simp [MapP, h1, h2]
      have HB := Lib.hid hb'; clear hb hb'
      go_enter Try.func63, Try.ntmps63
      go_wp2_with (go_at_call 62; refine (implSize_any _ _ true (decide_eq_true h1)).mono ?_; rintro e w1 ⟨rfl, rfl⟩)
      go_loopw [17] (fun i wr => ∃ k : Nat, k ≤ xs.length ∧ i = .int .i64 k ∧ Hid (∀ j, j < k → 0 ≤ xs.getD j 0 ∧ xs.getD j 0 < n) ∧ Below w.heap.size w wr) (fun i _ => xs.length - (intOf i).toNat)
      case atStart => exact ⟨0, Nat.zero_le _, rfl, fun j hj => absurd hj (by omega), Below.refl _ _⟩
      case round =>
        obtain ⟨k, hk, rfl, hall, hbel⟩ := hrel
        by_cases hlt : k < xs.length
        · obtain ⟨bb, off, rfl, hbs, hcell⟩ := HC.out k hlt
          have c1 : wr.cell? ⟨bb, off + k, none⟩ = some (.int .i64 (xs.getD k 0)) := (hbel.cell (p := ⟨bb, off + k, none⟩) hbs).trans (hcell k hlt)
          clear hcell
          obtain ⟨x, hx⟩ : ∃ x, x = xs.getD k 0 := ⟨_, rfl⟩
          rw [← hx] at c1
          have HX := Lib.hid hx; clear hx
          by_cases h0 : x < 0
          · have hf : b = false := by
              rw [← HB.out, decide_eq_false_iff_not]
              intro hall'
              have := hall' _ (mem_getD hlt)
              rw [← HX.out] at this
              omega
            subst hf
            go_wp2
            go_ret
            exact ⟨rfl, hbel⟩
          · by_cases h1 : n ≤ x
            · have hf : b = false := by
                rw [← HB.out, decide_eq_false_iff_not]
                intro hall'
                have := hall' _ (mem_getD hlt)
                rw [← HX.out] at this
                omega
              subst hf
              go_wp2
              go_ret
              exact ⟨rfl, hbel⟩
            · go_wp2
              go_roundw
              case rel =>
                refine ⟨k + 1, by omega, by go_num, fun j hj => ?_, hbel⟩
                by_cases hjk : j = k
                · subst hjk; rw [← HX.out]; omega
                · exact hall.out j (by omega)
              case measure => simp [intOf]; omega
        · obtain rfl : k = xs.length := by omega
          have ht : b = true := by
            rw [← HB.out, decide_eq_true_iff]
            exact allP_of hall.out
          subst ht
          go_wp2
          go_ret
          exact ⟨rfl, hbel⟩
    · obtain rfl := bF hb (fun hm => h2 hm.2.1)
      clear hb
      go_enter Try.func63, Try.ntmps63
      go_wp2_with (go_at_call 62; refine (implSize_any _ _ true (decide_eq_true h1)).mono ?_; rintro e w1 ⟨rfl, rfl⟩)
      go_ret
      exact ⟨rfl, Below.refl _ _⟩
  · obtain rfl := bF hb (fun hm => h1 hm.1)
    clear hb
    go_enter Try.func63, Try.ntmps63
    go_wp2_with (go_at_call 62; refine (implSize_any _ _ false (decide_eq_false h1)).mono ?_; rintro e w1 ⟨rfl, rfl⟩)
    go_ret
    exact ⟨rfl, Below.refl _ _⟩

def fIsMap (n : Int) (xs : List Int) : Bool := decide (MapP n xs)
theorem impl_IsMap (w : World) (n : Int) (v : Value) (xs : List Int) (h : Rd w v xs) : Calls Try.prog 63 #[.int .i64 n, v] w (RetB w (fIsMap n xs)) := implIsMap_any w n v xs _ h rfl

end Go.Proofs.Ytgkfampgofjkfaa

namespace Go.Proofs.Ytgkfampgofjkfaa
open Go.RowKit

theorem ret_i {a b : Int} (h : a = b) : Ending.returned (.int .i64 a) = .returned (.int .i64 b) := by rw [h]

def codeM (n : Int) (xs : List Int) : Int := if SizeP n then (if MapP n xs then 0 else 1) else 2

/-- The indices below k that a test takes. -/
def idxs (p : Nat → Bool) (k : Nat) : List Int := ((List.range k).filter p).map (fun (j : Nat) => (j : Int))
theorem idxs_yes {p : Nat → Bool} {k : Nat} (h : p k = true) : idxs p (k + 1) = idxs p k ++ [(k : Int)] := by
  simp [idxs, List.range_succ, h]
theorem idxs_no {p : Nat → Bool} {k : Nat} (h : p k = false) : idxs p (k + 1) = idxs p k := by
  simp [idxs, List.range_succ, h]
theorem idxs_len (p : Nat → Bool) (k : Nat) : (idxs p k).length ≤ k := by
  simpa [idxs] using List.length_filter_le p (List.range k)

end Go.Proofs.Ytgkfampgofjkfaa

namespace Go.Proofs.Ytgkfampgofjkfaa
open Go.RowKit

def codeTwo (n : Int) (f g : List Int) : Int := if codeM n f = 0 then (if MapP n g ∧ f.length = g.length then 0 else 1) else codeM n f

end Go.Proofs.Ytgkfampgofjkfaa
