
/- EqualizerOf: the program and its model. -/
import Derived.Test.YtfnneogadciimabMap
set_option linter.unusedSimpArgs false
set_option linter.unusedVariables false
set_option linter.unusedSectionVars false
namespace Go.Proofs.Ytfnneogadciimab
open Go.RowKit

def eqP (f g : List Int) (j : Nat) : Bool := f.getD j 0 == g.getD j 0
def fEqualizerOf (n : Int) (f g : List Int) : List Int × Int :=
  if codeTwo n f g = 0 then (idxs (eqP f g) f.length, 0) else ([], codeTwo n f g)

theorem ret_nil' {w : World} {W : World} {c : Int} (hb : Below W.heap.size W w) : RetLI W [] c (.returned (.tuple #[.slice none 0 0, .int .i64 c])) w :=
  ⟨_, rfl, Sl.nil _ _, hb⟩

theorem codeTwo_len {n : Int} {f g : List Int} (h : codeTwo n f g = 0) : f.length = g.length := by
  unfold codeTwo at h
  split at h
  · split at h
    · rename_i hh; exact hh.2
    · cases h
  · rename_i hh; exact absurd h hh

set_option maxHeartbeats 800000 in
set_option maxRecDepth 100000 in
theorem spec_EqualizerOf (w : World) (n : Int) (v : Value) (f : List Int) (u : Value) (g : List Int) (hf : Rd w v f) (hg : Rd w u g) :
    Calls Try.prog 60 #[.int .i64 n, v, u] w (RetLI w (fEqualizerOf n f g).1 (fEqualizerOf n f g).2) := by
  obtain ⟨c, hc⟩ : ∃ c, codeTwo n f g = c := ⟨_, rfl⟩
  unfold fEqualizerOf
  rw [hc]
  by_cases h0 : c = 0
  · subst h0
    rw [if_pos rfl]
    have hl := Nat.le_of_eq (codeTwo_len hc)
    have hl' := Nat.le_of_eq (codeTwo_len hc).symm
    have HC := Lib.hid hc; clear hc
    have Rf := hf
    have Rg := hg
    obtain ⟨a1, cap1, rfl, l1, k1⟩ := hf
    obtain ⟨a2, cap2, rfl, l2, k2⟩ := hg
    have K1 := Lib.hid k1; have K2 := Lib.hid k2; clear k1 k2
    go_enter Try.func60, Try.ntmps60
    go_wp2_with fail
    refine (specTwo_any _ _ _ _ _ _ 0 Rf Rg HC.out).mono ?_; rintro e w1 ⟨rfl, hb1⟩
    go_wp2
    have hbe : Below w.heap.size w (w1.alloc (.cells #[] 2)) := hb1.alloc hb1.size _
    have HE := Lib.hid ((sl_empty w1).mono hb1.size)
    go_loopw [9, 10] (fun x i wr => ∃ k : Nat, k ≤ f.length ∧ i = .int .i64 k ∧ Sl wr w.heap.size x (idxs (eqP f g) k) ∧ Below w.heap.size w wr) (fun _ i _ => f.length - (intOf i).toNat)
    case atStart => exact ⟨0, Nat.zero_le _, rfl, HE.out, hbe⟩
    case round =>
      obtain ⟨k, hk, rfl, hs, hbel⟩ := hrel
      by_cases hlt : k < f.length
      · have hlt2 : k < g.length := by omega
        obtain ⟨b1, o1, rfl, hb1, cell1⟩ := K1.out k hlt
        obtain ⟨b2, o2, rfl, hb2, cell2⟩ := K2.out k hlt2
        have c1 : wr.cell? ⟨b1, o1 + k, none⟩ = some (.int .i64 (f.getD k 0)) := (hbel.cell (p := ⟨b1, o1 + k, none⟩) hb1).trans (cell1 k hlt)
        have c2 : wr.cell? ⟨b2, o2 + k, none⟩ = some (.int .i64 (g.getD k 0)) := (hbel.cell (p := ⟨b2, o2 + k, none⟩) hb2).trans (cell2 k hlt2)
        clear cell1 cell2
        obtain ⟨x, hx⟩ : ∃ x, x = f.getD k 0 := ⟨_, rfl⟩
        obtain ⟨y, hy⟩ : ∃ y, y = g.getD k 0 := ⟨_, rfl⟩
        rw [← hx] at c1
        rw [← hy] at c2
        have hn := idxs_len (eqP f g) k
        by_cases hxy : x = y
        · have hp : eqP f g k = true := by unfold eqP; rw [← hx, ← hy]; simpa using hxy
          have ht : (x == y) = true := by simpa using hxy
          have HP := Lib.hid (idxs_yes hp); clear hp hxy hx hy
          go_wp2
          go_quiet (fail)
          go_wp2_with (at_builtin; refine wp_app64 rfl _ _ _ rfl Try.underlying22 (k : Int) (sl_quiet hs) rfl rfl (by omega) hbel.size ?_; intro v1 w2 hs1 hg1)
          go_roundw
          case rel => exact ⟨k + 1, by omega, by go_num, by rw [HP.out]; exact hs1, below_grown (below_quiet hbel) (sl_quiet hs) (Nat.le_refl _) hg1⟩
          case measure => simp [intOf]; omega
        · have hp : eqP f g k = false := by unfold eqP; rw [← hx, ← hy]; simpa using hxy
          have ht : (x == y) = false := by simpa using hxy
          have HP := Lib.hid (idxs_no hp); clear hp hxy hx hy
          go_wp2
          go_quiet (fail)
          go_wp2
          go_roundw
          case rel => exact ⟨k + 1, by omega, by go_num, by rw [HP.out]; exact sl_quiet hs, below_quiet hbel⟩
          case measure => simp [intOf]; omega
      · obtain rfl : k = f.length := by omega
        go_wp2
        go_ret2
        exact ⟨_, rfl, hs, hbel⟩
  · rw [if_neg h0]
    have HC := Lib.hid hc; clear hc
    have hne : (c != 0) = true := by simpa using h0
    clear h0
    go_enter Try.func60, Try.ntmps60
    go_wp2_with (go_at_call 110; refine (specTwo_any _ _ _ _ _ _ c hf hg HC.out).mono ?_; rintro e w1 ⟨rfl, hb1⟩)
    go_ret2
    exact ret_nil' hb1

set_option maxHeartbeats 800000 in
set_option maxRecDepth 100000 in
theorem impl_EqualizerOf (w : World) (n : Int) (v : Value) (f : List Int) (u : Value) (g : List Int) (hf : Rd w v f) (hg : Rd w u g) :
    Calls Try.prog 59 #[.int .i64 n, v, u] w (RetLI w (fEqualizerOf n f g).1 (fEqualizerOf n f g).2) := by
  obtain ⟨c, hc⟩ : ∃ c, codeTwo n f g = c := ⟨_, rfl⟩
  unfold fEqualizerOf
  rw [hc]
  by_cases h0 : c = 0
  · subst h0
    rw [if_pos rfl]
    have hl := Nat.le_of_eq (codeTwo_len hc)
    have hl' := Nat.le_of_eq (codeTwo_len hc).symm
    have HC := Lib.hid hc; clear hc
    have Rf := hf
    have Rg := hg
    obtain ⟨a1, cap1, rfl, l1, k1⟩ := hf
    obtain ⟨a2, cap2, rfl, l2, k2⟩ := hg
    have K1 := Lib.hid k1; have K2 := Lib.hid k2; clear k1 k2
    go_enter Try.func59, Try.ntmps59
    go_wp2_with fail
    refine (implTwo_any _ _ _ _ _ _ 0 Rf Rg HC.out).mono ?_; rintro e w1 ⟨rfl, hb1⟩
    go_wp2
    go_loopw [9, 20] (fun x i wr => ∃ k : Nat, k ≤ f.length ∧ i = .int .i64 k ∧ Sl wr w.heap.size x (idxs (eqP f g) k) ∧ Below w.heap.size w wr) (fun _ i _ => f.length - (intOf i).toNat)
    case atStart => exact ⟨0, Nat.zero_le _, rfl, Sl.nil _ _, hb1⟩
    case round =>
      obtain ⟨k, hk, rfl, hs, hbel⟩ := hrel
      by_cases hlt : k < f.length
      · have hlt2 : k < g.length := by omega
        obtain ⟨b1, o1, rfl, hb1, cell1⟩ := K1.out k hlt
        obtain ⟨b2, o2, rfl, hb2, cell2⟩ := K2.out k hlt2
        have c1 : wr.cell? ⟨b1, o1 + k, none⟩ = some (.int .i64 (f.getD k 0)) := (hbel.cell (p := ⟨b1, o1 + k, none⟩) hb1).trans (cell1 k hlt)
        have c2 : wr.cell? ⟨b2, o2 + k, none⟩ = some (.int .i64 (g.getD k 0)) := (hbel.cell (p := ⟨b2, o2 + k, none⟩) hb2).trans (cell2 k hlt2)
        clear cell1 cell2
        obtain ⟨x, hx⟩ : ∃ x, x = f.getD k 0 := ⟨_, rfl⟩
        obtain ⟨y, hy⟩ : ∃ y, y = g.getD k 0 := ⟨_, rfl⟩
        rw [← hx] at c1
        rw [← hy] at c2
        have hn := idxs_len (eqP f g) k
        by_cases hxy : x = y
        · have hp : eqP f g k = true := by unfold eqP; rw [← hx, ← hy]; simpa using hxy
          have ht : (x == y) = true := by simpa using hxy
          have HP := Lib.hid (idxs_yes hp); clear hp hxy hx hy
          go_wp2
          go_quiet (fail)
          go_wp2_with (at_builtin; refine wp_app64 rfl _ _ _ rfl Try.underlying22 (k : Int) (sl_quiet hs) rfl rfl (by omega) hbel.size ?_; intro v1 w2 hs1 hg1)
          go_roundw
          case rel => exact ⟨k + 1, by omega, by go_num, by rw [HP.out]; exact hs1, below_grown (below_quiet hbel) (sl_quiet hs) (Nat.le_refl _) hg1⟩
          case measure => simp [intOf]; omega
        · have hp : eqP f g k = false := by unfold eqP; rw [← hx, ← hy]; simpa using hxy
          have ht : (x == y) = false := by simpa using hxy
          have HP := Lib.hid (idxs_no hp); clear hp hxy hx hy
          go_wp2
          go_quiet (fail)
          go_wp2
          go_roundw
          case rel => exact ⟨k + 1, by omega, by go_num, by rw [HP.out]; exact sl_quiet hs, below_quiet hbel⟩
          case measure => simp [intOf]; omega
      · obtain rfl : k = f.length := by omega
        go_wp2
        go_ret2
        exact ⟨_, rfl, hs, hbel⟩
  · rw [if_neg h0]
    have HC := Lib.hid hc; clear hc
    have hne : (c != 0) = true := by simpa using h0
    clear h0
    go_enter Try.func59, Try.ntmps59
    go_wp2_with (go_at_call 108; refine (implTwo_any _ _ _ _ _ _ c hf hg HC.out).mono ?_; rintro e w1 ⟨rfl, hb1⟩)
    go_ret2
    exact ret_nil' hb1

end Go.Proofs.Ytfnneogadciimab
