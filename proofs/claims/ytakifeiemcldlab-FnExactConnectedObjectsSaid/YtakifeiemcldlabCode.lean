
/- The error of a map. -/
import Derived.Test.YtakifeiemcldlabMap
namespace Go.Proofs.Ytakifeiemcldlab
open Go.RowKit

theorem ret_i {a b : Int} (h : a = b) : Ending.returned (.int .i64 a) = .returned (.int .i64 b) := by rw [h]

def codeM (n : Int) (xs : List Int) : Int := if SizeP n then (if MapP n xs then 0 else 1) else 2

set_option maxHeartbeats 400000 in
theorem specCode_any (w : World) (n : Int) (v : Value) (xs : List Int) (c : Int) (h : Rd w v xs) (hc : codeM n xs = c) :
    Calls Try.prog 130 #[.int .i64 n, v] w (RetI w c) := by
  by_cases h1 : SizeP n
  · by_cases h2 : MapP n xs
    · obtain rfl : c = 0 := by rw [← hc]; simp [codeM, h1, h2]
      clear hc
      have D1 := Lib.hid (decide_eq_true h1); have D2 := Lib.hid (decide_eq_true h2); clear h1 h2
      go_enter Try.func130, Try.ntmps130
      go_wp2_with (first
        | (go_at_call 93; refine (specSize_any _ _ true D1.out).mono ?_; rintro e w1 ⟨rfl, rfl⟩)
        | (go_at_call 94; refine (specIsMap_any _ _ _ _ true h D2.out).mono ?_; rintro e w1 ⟨rfl, hb1⟩))
      go_ret
      exact ⟨rfl, hb1⟩
    · obtain rfl : c = 1 := by rw [← hc]; simp [codeM, h1, h2]
      clear hc
      have D1 := Lib.hid (decide_eq_true h1); have D2 := Lib.hid (decide_eq_false h2); clear h1 h2
      go_enter Try.func130, Try.ntmps130
      go_wp2_with (first
        | (go_at_call 93; refine (specSize_any _ _ true D1.out).mono ?_; rintro e w1 ⟨rfl, rfl⟩)
        | (go_at_call 94; refine (specIsMap_any _ _ _ _ false h D2.out).mono ?_; rintro e w1 ⟨rfl, hb1⟩))
      go_ret
      exact ⟨rfl, hb1⟩
  · obtain rfl : c = 2 := by rw [← hc]; simp [codeM, h1]
    clear hc
    have D1 := Lib.hid (decide_eq_false h1); clear h1
    go_enter Try.func130, Try.ntmps130
    go_wp2_with (go_at_call 93; refine (specSize_any _ _ false D1.out).mono ?_; rintro e w1 ⟨rfl, rfl⟩)
    go_ret
    exact ⟨rfl, Below.refl _ _⟩

set_option maxHeartbeats 400000 in
theorem implCode_any (w : World) (n : Int) (v : Value) (xs : List Int) (c : Int) (h : Rd w v xs) (hc : codeM n xs = c) :
    Calls Try.prog 92 #[.int .i64 n, v] w (RetI w c) := by
  by_cases h1 : SizeP n
  · by_cases h2 : MapP n xs
    · obtain rfl : c = 0 := by rw [← hc]; simp [codeM, h1, h2]
      clear hc
      have D1 := Lib.hid (decide_eq_true h1); have D2 := Lib.hid (decide_eq_true h2); clear h1 h2
      go_enter Try.func92, Try.ntmps92
      go_wp2_with (first
        | (go_at_call 85; refine (implSize_any _ _ true D1.out).mono ?_; rintro e w1 ⟨rfl, rfl⟩)
        | (go_at_call 86; refine (implIsMap_any _ _ _ _ true h D2.out).mono ?_; rintro e w1 ⟨rfl, hb1⟩))
      go_ret
      exact ⟨rfl, hb1⟩
    · obtain rfl : c = 1 := by rw [← hc]; simp [codeM, h1, h2]
      clear hc
      have D1 := Lib.hid (decide_eq_true h1); have D2 := Lib.hid (decide_eq_false h2); clear h1 h2
      go_enter Try.func92, Try.ntmps92
      go_wp2_with (first
        | (go_at_call 85; refine (implSize_any _ _ true D1.out).mono ?_; rintro e w1 ⟨rfl, rfl⟩)
        | (go_at_call 86; refine (implIsMap_any _ _ _ _ false h D2.out).mono ?_; rintro e w1 ⟨rfl, hb1⟩))
      go_ret
      exact ⟨rfl, hb1⟩
  · obtain rfl : c = 2 := by rw [← hc]; simp [codeM, h1]
    clear hc
    have D1 := Lib.hid (decide_eq_false h1); clear h1
    go_enter Try.func92, Try.ntmps92
    go_wp2_with (go_at_call 85; refine (implSize_any _ _ false D1.out).mono ?_; rintro e w1 ⟨rfl, rfl⟩)
    go_ret
    exact ⟨rfl, Below.refl _ _⟩

/-- The indices below k that a test takes. -/
def idxs (p : Nat → Bool) (k : Nat) : List Int := ((List.range k).filter p).map (fun (j : Nat) => (j : Int))
theorem idxs_yes {p : Nat → Bool} {k : Nat} (h : p k = true) : idxs p (k + 1) = idxs p k ++ [(k : Int)] := by
  simp [idxs, List.range_succ, h]
theorem idxs_no {p : Nat → Bool} {k : Nat} (h : p k = false) : idxs p (k + 1) = idxs p k := by
  simp [idxs, List.range_succ, h]
theorem idxs_len (p : Nat → Bool) (k : Nat) : (idxs p k).length ≤ k := by
  simpa [idxs] using List.length_filter_le p (List.range k)

end Go.Proofs.Ytakifeiemcldlab
