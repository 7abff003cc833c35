
/- FibreOf: the program and its model. -/
import Derived.Test.YtfnneogadciimabMap
set_option linter.unusedSimpArgs false
set_option linter.unusedVariables false
set_option linter.unusedSectionVars false
namespace Go.Proofs.Ytfnneogadciimab
open Go.RowKit

def fibreP (xs : List Int) (y : Int) (j : Nat) : Bool := xs.getD j 0 == y
def fFibreOf (n : Int) (xs : List Int) (y : Int) : List Int × Int :=
  if codeM n xs = 0 then (if 0 ≤ y ∧ y < n then (idxs (fibreP xs y) xs.length, 0) else ([], 2)) else ([], codeM n xs)

theorem ret_nil {w : World} {W : World} {c : Int} (hb : Below W.heap.size W w) : RetLI W [] c (.returned (.tuple #[.slice none 0 0, .int .i64 c])) w :=
  ⟨_, rfl, Sl.nil _ _, hb⟩

set_option maxHeartbeats 800000 in
set_option maxRecDepth 100000 in
theorem impl_FibreOf (w : World) (n : Int) (v : Value) (xs : List Int) (y : Int) (h : Rd w v xs) :
    Calls Try.prog 52 #[.int .i64 n, v, .int .i64 y] w (RetLI w (fFibreOf n xs y).1 (fFibreOf n xs y).2) := by
  obtain ⟨c, hc⟩ : ∃ c, codeM n xs = c := ⟨_, rfl⟩
  unfold fFibreOf
  rw [hc]
  have HC := Lib.hid hc; clear hc
  by_cases h0 : c = 0
  · subst h0
    by_cases hy : 0 ≤ y ∧ y < n
    · rw [if_pos rfl, if_pos hy]
      obtain ⟨hy0, hy1⟩ := hy
      have R := h
      obtain ⟨a, cap, rfl, hl, hcc⟩ := h
      have HCC := Lib.hid hcc; clear hcc
      go_enter Try.func52, Try.ntmps52
      go_wp2_with (go_at_call 84; refine (implCode_any _ _ _ _ 0 R HC.out).mono ?_; rintro e w1 ⟨rfl, hb1⟩)
      go_loopw [9, 27] (fun u i wr => ∃ k : Nat, k ≤ xs.length ∧ i = .int .i64 k ∧ Sl wr w.heap.size u (idxs (fibreP xs y) k) ∧ Below w.heap.size w wr) (fun _ i _ => xs.length - (intOf i).toNat)
      case atStart => exact ⟨0, Nat.zero_le _, rfl, Sl.nil _ _, hb1⟩
      case round =>
        obtain ⟨k, hk, rfl, hs, hbel⟩ := hrel
        by_cases hlt : k < xs.length
        · obtain ⟨bb, off, rfl, hbs, hcell⟩ := HCC.out k hlt
          have c1 : wr.cell? ⟨bb, off + k, none⟩ = some (.int .i64 (xs.getD k 0)) := (hbel.cell (p := ⟨bb, off + k, none⟩) hbs).trans (hcell k hlt)
          clear hcell
          obtain ⟨x, hx⟩ : ∃ x, x = xs.getD k 0 := ⟨_, rfl⟩
          rw [← hx] at c1
          have hn := idxs_len (fibreP xs y) k
          by_cases hxy : x = y
          · have hp : fibreP xs y k = true := by unfold fibreP; rw [← hx]; simpa using hxy
            have HX := Lib.hid hx; clear hx
            have ht : (x == y) = true := by simpa using hxy
            have HP := Lib.hid (idxs_yes hp); clear hp hxy
            go_wp2_with (at_builtin; refine wp_app64 rfl _ _ _ rfl Try.underlying22 (k : Int) hs rfl rfl (by omega) hbel.size ?_; intro v1 w2 hs1 hg1)
            go_roundw
            case rel => exact ⟨k + 1, by omega, by go_num, by rw [HP.out]; exact hs1, below_grown hbel hs (Nat.le_refl _) hg1⟩
            case measure => simp [intOf]; omega
          · have hp : fibreP xs y k = false := by unfold fibreP; rw [← hx]; simpa using hxy
            have HX := Lib.hid hx; clear hx
            have ht : (x == y) = false := by simpa using hxy
            have HP := Lib.hid (idxs_no hp); clear hp hxy
            go_wp2
            go_roundw
            case rel => exact ⟨k + 1, by omega, by go_num, by rw [HP.out]; exact hs, hbel⟩
            case measure => simp [intOf]; omega
        · obtain rfl : k = xs.length := by omega
          go_wp2
          go_ret2
          exact ⟨_, rfl, hs, hbel⟩
    · rw [if_pos rfl, if_neg hy]
      by_cases hy0 : y < 0
      · clear hy
        go_enter Try.func52, Try.ntmps52
        go_wp2_with (go_at_call 84; refine (implCode_any _ _ _ _ 0 h HC.out).mono ?_; rintro e w1 ⟨rfl, hb1⟩)
        go_ret2
        exact ret_nil hb1
      · have hy1 : n ≤ y := by omega
        clear hy
        go_enter Try.func52, Try.ntmps52
        go_wp2_with (go_at_call 84; refine (implCode_any _ _ _ _ 0 h HC.out).mono ?_; rintro e w1 ⟨rfl, hb1⟩)
        go_ret2
        exact ret_nil hb1
  · rw [if_neg h0]
    have hne : (c != 0) = true := by simpa using h0
    clear h0
    go_enter Try.func52, Try.ntmps52
    go_wp2_with (go_at_call 84; refine (implCode_any _ _ _ _ c h HC.out).mono ?_; rintro e w1 ⟨rfl, hb1⟩)
    go_ret2
    exact ret_nil hb1

end Go.Proofs.Ytfnneogadciimab
