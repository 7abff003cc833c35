
/- ThenMaps: the program and its model. -/
import Derived.Test.YtfnneogadciimabMap
import Derived.Test.YtfnneogadciimabBase
set_option linter.unusedSimpArgs false
set_option linter.unusedVariables false
set_option linter.unusedSectionVars false
namespace Go.Proofs.Ytfnneogadciimab
open Go.RowKit

def thenL (f g : List Int) : List Int := f.map fun x => g.getD x.toNat 0
def fThenMaps (n : Int) (f : List Int) (k : Int) (g : List Int) : List Int × Int :=
  if SizeP n ∧ SizeP k then (if MapP n f ∧ MapP k g ∧ (g.length : Int) = n then (thenL f g, 0) else ([], 1)) else ([], 2)

theorem retLI_nil {w : World} {W : World} {c : Int} (hb : Below W.heap.size W w) : RetLI W [] c (.returned (.tuple #[.slice none 0 0, .int .i64 c])) w :=
  ⟨_, rfl, Sl.nil _ _, hb⟩

theorem thenL_snoc {f g : List Int} {k : Nat} (hk : k < f.length) : thenL (f.take (k + 1)) g = thenL (f.take k) g ++ [g.getD (f.getD k 0).toNat 0] := by
  rw [take_snoc hk]; simp [thenL]

set_option maxHeartbeats 800000 in
set_option maxRecDepth 100000 in
theorem specThenM_any (w : World) (v u : Value) (f g : List Int) (hf : Rd w v f) (hg : Rd w u g) (ha : AllP g.length f) :
    Calls Try.prog 79 #[v, u] w (RetL w (thenL f g)) := by
  have HA := Lib.hid ha; clear ha
  obtain ⟨a1, cap1, rfl, l1, k1⟩ := hf
  obtain ⟨a2, cap2, rfl, l2, k2⟩ := hg
  have K1 := Lib.hid k1; have K2 := Lib.hid k2; clear k1 k2
  go_enter Try.func79, Try.ntmps79
  go_wp2
  have hbe : Below w.heap.size w (w.alloc (.cells #[] 2)) := (Below.refl _ _).alloc (Nat.le_refl _) _
  have HE := Lib.hid (sl_empty w)
  go_loopw [5, 6] (fun x i wr => ∃ k : Nat, k ≤ f.length ∧ i = .int .i64 k ∧ Sl wr w.heap.size x (thenL (f.take k) g) ∧ Below w.heap.size w wr) (fun _ i _ => f.length - (intOf i).toNat)
  case atStart => exact ⟨0, Nat.zero_le _, rfl, by simpa [thenL] using HE.out, hbe⟩
  case round =>
    obtain ⟨k, hk, rfl, hs, hbel⟩ := hrel
    by_cases hlt : k < f.length
    · have hin := HA.out _ (mem_getD hlt)
      obtain ⟨m, hm⟩ := Int.eq_ofNat_of_zero_le hin.1
      have hin2 : m < g.length := by omega
      obtain ⟨b1, o1, rfl, hb1, cell1⟩ := K1.out k hlt
      obtain ⟨b2, o2, rfl, hb2, cell2⟩ := K2.out m hin2
      have c1 : wr.cell? ⟨b1, o1 + k, none⟩ = some (.int .i64 (f.getD k 0)) := (hbel.cell (p := ⟨b1, o1 + k, none⟩) hb1).trans (cell1 k hlt)
      have c2 : wr.cell? ⟨b2, o2 + m, none⟩ = some (.int .i64 (g.getD m 0)) := (hbel.cell (p := ⟨b2, o2 + m, none⟩) hb2).trans (cell2 m hin2)
      clear cell1 cell2 hin
      have hsn := thenL_snoc (g := g) hlt
      rw [hm] at hsn c1
      rw [Int.toNat_natCast] at hsn
      have HSN := Lib.hid hsn; have HM := Lib.hid hm; clear hsn hm
      obtain ⟨y, hy⟩ : ∃ y, y = g.getD m 0 := ⟨_, rfl⟩
      rw [← hy] at c2
      have HY := Lib.hid hy; clear hy
      have hn : (thenL (f.take k) g).length ≤ k := by simp [thenL]; omega
      go_wp2_with (at_builtin; refine wp_app64 rfl _ _ _ rfl Try.underlying22 y hs rfl rfl (by omega) hbel.size ?_; intro v1 w2 hs1 hg1)
      go_roundw
      case rel => exact ⟨k + 1, by omega, by go_num, by rw [HSN.out, ← HY.out]; exact hs1, below_grown hbel hs (Nat.le_refl _) hg1⟩
      case measure => simp [intOf]; omega
    · obtain rfl : k = f.length := by omega
      have HS := Lib.hid hs; clear hs
      go_wp2
      go_ret
      exact ⟨_, rfl, by simpa using HS.out, hbel⟩

set_option maxHeartbeats 800000 in
set_option maxRecDepth 100000 in
theorem spec_ThenMaps (w : World) (n : Int) (v : Value) (f : List Int) (k : Int) (u : Value) (g : List Int) (hf : Rd w v f) (hg : Rd w u g) :
    Calls Try.prog 26 #[.int .i64 n, v, .int .i64 k, u] w (RetLI w (fThenMaps n f k g).1 (fThenMaps n f k g).2) := by
  unfold fThenMaps
  have Rf := hf
  have Rg := hg
  obtain ⟨a1, cap1, rfl, l1, _⟩ := hf
  obtain ⟨a2, cap2, rfl, l2, _⟩ := hg
  by_cases hn : SizeP n
  · have D1 := Lib.hid (decide_eq_true hn)
    by_cases hk : SizeP k
    · have D2 := Lib.hid (decide_eq_true hk)
      rw [if_pos ⟨hn, hk⟩]
      by_cases h1 : MapP n f
      · have E1 := Lib.hid (decide_eq_true h1)
        by_cases h2 : MapP k g
        · have E2 := Lib.hid (decide_eq_true h2)
          by_cases h3 : (g.length : Int) = n
          · rw [if_pos ⟨h1, h2, h3⟩]
            have ha : AllP g.length f := by rw [h3]; exact h1.2.2
            subst h3
            have e3 : ((g.length : Int) != (g.length : Int)) = false := by simp
            clear hn hk h1 h2
            go_enter Try.func26, Try.ntmps26
            go_wp2_with fail
            refine (specSize_any _ _ true D1.out).mono ?_; rintro e w1 ⟨rfl, rfl⟩
            go_wp2_with fail
            refine (specSize_any _ _ true D2.out).mono ?_; rintro e w1 ⟨rfl, rfl⟩
            go_wp2_with fail
            refine (specIsMap_any _ _ _ _ true Rf E1.out).mono ?_; rintro e w1 ⟨rfl, hb1⟩
            go_wp2_with fail
            refine (specIsMap_any _ _ _ _ true (rd_below hb1 Rg) E2.out).mono ?_; rintro e w2 ⟨rfl, hb2⟩
            go_wp2_with fail
            have hb := hb1.trans (hb2.mono hb1.size)
            refine (specThenM_any _ _ _ _ _ (rd_below hb Rf) (rd_below hb Rg) ha).mono ?_; rintro e w3 ⟨y, rfl, hs3, hb3⟩
            go_wp2
            go_ret2
            exact ⟨_, rfl, hs3.mono hb.size, hb.trans (hb3.mono hb.size)⟩
          · rw [if_neg (fun h => h3 h.2.2)]
            have e3 : ((g.length : Int) != n) = true := by simpa using h3
            clear hn hk h1 h2 h3
            go_enter Try.func26, Try.ntmps26
            go_wp2_with fail
            refine (specSize_any _ _ true D1.out).mono ?_; rintro e w1 ⟨rfl, rfl⟩
            go_wp2_with fail
            refine (specSize_any _ _ true D2.out).mono ?_; rintro e w1 ⟨rfl, rfl⟩
            go_wp2_with fail
            refine (specIsMap_any _ _ _ _ true Rf E1.out).mono ?_; rintro e w1 ⟨rfl, hb1⟩
            go_wp2_with fail
            refine (specIsMap_any _ _ _ _ true (rd_below hb1 Rg) E2.out).mono ?_; rintro e w2 ⟨rfl, hb2⟩
            go_wp2
            go_ret2
            exact retLI_nil (hb1.trans (hb2.mono hb1.size))
        · have E2 := Lib.hid (decide_eq_false h2)
          rw [if_neg (fun h => h2 h.2.1)]
          clear hn hk h1 h2
          go_enter Try.func26, Try.ntmps26
          go_wp2_with fail
          refine (specSize_any _ _ true D1.out).mono ?_; rintro e w1 ⟨rfl, rfl⟩
          go_wp2_with fail
          refine (specSize_any _ _ true D2.out).mono ?_; rintro e w1 ⟨rfl, rfl⟩
          go_wp2_with fail
          refine (specIsMap_any _ _ _ _ true Rf E1.out).mono ?_; rintro e w1 ⟨rfl, hb1⟩
          go_wp2_with fail
          refine (specIsMap_any _ _ _ _ false (rd_below hb1 Rg) E2.out).mono ?_; rintro e w2 ⟨rfl, hb2⟩
          go_wp2
          go_ret2
          exact retLI_nil (hb1.trans (hb2.mono hb1.size))
      · have E1 := Lib.hid (decide_eq_false h1)
        rw [if_neg (fun h => h1 h.1)]
        clear hn hk h1
        go_enter Try.func26, Try.ntmps26
        go_wp2_with fail
        refine (specSize_any _ _ true D1.out).mono ?_; rintro e w1 ⟨rfl, rfl⟩
        go_wp2_with fail
        refine (specSize_any _ _ true D2.out).mono ?_; rintro e w1 ⟨rfl, rfl⟩
        go_wp2_with fail
        refine (specIsMap_any _ _ _ _ false Rf E1.out).mono ?_; rintro e w1 ⟨rfl, hb1⟩
        go_wp2
        go_ret2
        exact retLI_nil hb1
    · have D2 := Lib.hid (decide_eq_false hk)
      rw [if_neg (fun h => hk h.2)]
      clear hn hk
      go_enter Try.func26, Try.ntmps26
      go_wp2_with fail
      refine (specSize_any _ _ true D1.out).mono ?_; rintro e w1 ⟨rfl, rfl⟩
      go_wp2_with fail
      refine (specSize_any _ _ false D2.out).mono ?_; rintro e w1 ⟨rfl, rfl⟩
      go_wp2
      go_ret2
      exact retLI_nil (Below.refl _ _)
  · have D1 := Lib.hid (decide_eq_false hn)
    rw [if_neg (fun h => hn h.1)]
    clear hn
    go_enter Try.func26, Try.ntmps26
    go_wp2_with fail
    refine (specSize_any _ _ false D1.out).mono ?_; rintro e w1 ⟨rfl, rfl⟩
    go_wp2
    go_ret2
    exact retLI_nil (Below.refl _ _)

theorem then_fill {f g : List Int} {k : Nat} (hk : k < f.length) :
    (thenL (f.take k) g ++ List.replicate (f.length - k) 0).set k (g.getD (f.getD k 0).toNat 0) = thenL (f.take (k + 1)) g ++ List.replicate (f.length - (k + 1)) 0 := by
  have hl : (thenL (f.take k) g).length = k := by simp [thenL]; omega
  rw [List.set_append, if_neg (by omega), hl, Nat.sub_self, thenL_snoc hk]
  obtain ⟨m, hm⟩ : ∃ m, f.length - k = m + 1 := ⟨f.length - k - 1, by omega⟩
  have hm' : f.length - (k + 1) = m := by omega
  rw [hm, hm', List.replicate_succ]
  simp

end Go.Proofs.Ytfnneogadciimab
