
/- ThenMaps: the program and its model. -/
import Derived.Test.YtdgffiilalabeaaMap
import Derived.Test.YtdgffiilalabeaaBase
set_option linter.unusedSimpArgs false
set_option linter.unusedVariables false
set_option linter.unusedSectionVars false
namespace Go.Proofs.Ytdgffiilalabeaa
open Go.RowKit

def thenL (f g : List Int) : List Int := f.map fun x => g.getD x.toNat 0
def fThenMaps (n : Int) (f : List Int) (k : Int) (g : List Int) : List Int × Int :=
  if SizeP n ∧ SizeP k then (if MapP n f ∧ MapP k g ∧ (g.length : Int) = n then (thenL f g, 0) else ([], 1)) else ([], 2)

theorem retLI_nil {w : World} {W : World} {c : Int} (hb : Below W.heap.size W w) : RetLI W [] c (.returned (.tuple #[.slice none 0 0, .int .i64 c])) w :=
  ⟨_, rfl, Sl.nil _ _, hb⟩

theorem thenL_snoc {f g : List Int} {k : Nat} (hk : k < f.length) : thenL (f.take (k + 1)) g = thenL (f.take k) g ++ [g.getD (f.getD k 0).toNat 0] := by
  rw [take_snoc hk]; simp [thenL]

theorem then_fill {f g : List Int} {k : Nat} (hk : k < f.length) :
    (thenL (f.take k) g ++ List.replicate (f.length - k) 0).set k (g.getD (f.getD k 0).toNat 0) = thenL (f.take (k + 1)) g ++ List.replicate (f.length - (k + 1)) 0 := by
  have hl : (thenL (f.take k) g).length = k := by simp [thenL]; omega
  rw [List.set_append, if_neg (by omega), hl, Nat.sub_self, thenL_snoc hk]
  obtain ⟨m, hm⟩ : ∃ m, f.length - k = m + 1 := ⟨f.length - k - 1, by omega⟩
  have hm' : f.length - (k + 1) = m := by omega
  rw [hm, hm', List.replicate_succ]
  simp

set_option maxHeartbeats 800000 in
set_option maxRecDepth 100000 in
theorem impl_ThenMaps (w : World) (n : Int) (v : Value) (f : List Int) (k : Int) (u : Value) (g : List Int) (hf : Rd w v f) (hg : Rd w u g) :
    Calls Try.prog 40 #[.int .i64 n, v, .int .i64 k, u] w (RetLI w (fThenMaps n f k g).1 (fThenMaps n f k g).2) := by
  unfold fThenMaps
  have Rf := hf
  have Rg := hg
  obtain ⟨a1, cap1, rfl, l1, _⟩ := hf
  obtain ⟨a2, cap2, rfl, l2, _⟩ := hg
  by_cases hn : SizeP n
  · have D1 := Lib.hid (decide_eq_true hn)
    by_cases hk : SizeP k
    · have D2 := Lib.hid (decide_eq_true hk)
      rw [if_pos ⟨hn, hk⟩]
      by_cases h1 : MapP n f
      · have E1 := Lib.hid (decide_eq_true h1)
        by_cases h2 : MapP k g
        · have E2 := Lib.hid (decide_eq_true h2)
          by_cases h3 : (g.length : Int) = n
          · rw [if_pos ⟨h1, h2, h3⟩]
            have ha : AllP g.length f := by rw [h3]; exact h1.2.2
            subst h3
            have e3 : ((g.length : Int) != (g.length : Int)) = false := by simp
            clear hn hk h1 h2
            go_enter Try.func40, Try.ntmps40
            go_wp2_with fail
            refine (implSize_any _ _ true D1.out).mono ?_; rintro e w1 ⟨rfl, rfl⟩
            go_wp2_with fail
            refine (implSize_any _ _ true D2.out).mono ?_; rintro e w1 ⟨rfl, rfl⟩
            go_wp2_with fail
            refine (implIsMap_any _ _ _ _ true Rf E1.out).mono ?_; rintro e w1 ⟨rfl, hb1⟩
            go_wp2_with fail
            refine (implIsMap_any _ _ _ _ true (rd_below hb1 Rg) E2.out).mono ?_; rintro e w2 ⟨rfl, hb2⟩
            have hb := hb1.trans (hb2.mono hb1.size)
            have HA := Lib.hid ha; clear ha
            obtain ⟨_, _, hv1, _, k1⟩ := Rf
            obtain ⟨_, _, hv2, _, k2⟩ := Rg
            simp only [Value.slice.injEq, true_and] at hv1 hv2
            obtain ⟨rfl, rfl⟩ := hv1
            obtain ⟨rfl, rfl⟩ := hv2
            have K1 := Lib.hid k1; have K2 := Lib.hid k2; clear k1 k2
            go_wp2_with (at_make; refine wp_make64 rfl _ _ _ rfl Try.underlying24 .i64 .i64 _ _ f.length rfl rfl rfl rfl l1 ?_; intro w3 hs3 hb3 hz3)
            have HS := Lib.hid (hs3.mono hb.size); clear hs3
            have hbx : Below w.heap.size w w3 := hb.trans (hb3.mono hb.size)
            go_loopw [42] (fun i wr => ∃ k : Nat, k ≤ f.length ∧ i = .int .i64 k ∧ Sl wr w.heap.size (.slice (some ⟨w2.heap.size, 0, none⟩) f.length f.length) (thenL (f.take k) g ++ List.replicate (f.length - k) 0) ∧ Below w.heap.size w wr) (fun i _ => f.length - (intOf i).toNat)
            case atStart => exact ⟨0, Nat.zero_le _, rfl, by simpa [thenL] using HS.out, hbx⟩
            case round =>
              obtain ⟨k, hk, rfl, hs, hbel⟩ := hrel
              by_cases hlt : k < f.length
              · have hin := HA.out _ (mem_getD hlt)
                obtain ⟨m, hm⟩ := Int.eq_ofNat_of_zero_le hin.1
                have hin2 : m < g.length := by omega
                obtain ⟨b1, o1, rfl, hb1, cell1⟩ := K1.out k hlt
                obtain ⟨b2, o2, rfl, hb2, cell2⟩ := K2.out m hin2
                have c1 : wr.cell? ⟨b1, o1 + k, none⟩ = some (.int .i64 (f.getD k 0)) := (hbel.cell (p := ⟨b1, o1 + k, none⟩) hb1).trans (cell1 k hlt)
                have c2 : wr.cell? ⟨b2, o2 + m, none⟩ = some (.int .i64 (g.getD m 0)) := (hbel.cell (p := ⟨b2, o2 + m, none⟩) hb2).trans (cell2 m hin2)
                clear cell1 cell2 hin
                have hset := sl_set hs k (g.getD m 0)
                have hsn := then_fill (g := g) hlt
                rw [hm] at hsn c1
                rw [Int.toNat_natCast] at hsn
                rw [hsn] at hset
                have c3 := sl_cell hs (j := k) (by simp [thenL]; omega)
                have c4 := sl_frozen hs k
                have HSET := Lib.hid hset; have HM := Lib.hid hm; clear hset hsn hm hs
                generalize (thenL (f.take k) g ++ List.replicate (f.length - k) 0).getD k 0 = z at c3
                obtain ⟨y, hy⟩ : ∃ y, y = g.getD m 0 := ⟨_, rfl⟩
                rw [← hy] at c2 HSET
                clear hy
                go_wp2
                go_roundw
                case rel => exact ⟨k + 1, by omega, by go_num, HSET.out.1, hbel.setCell hb.size _⟩
                case measure => simp [intOf]; omega
              · obtain rfl : k = f.length := by omega
                have HS2 := Lib.hid hs; clear hs
                go_wp2
                go_ret2
                exact ⟨_, rfl, by simpa using HS2.out, hbel⟩
          · rw [if_neg (fun h => h3 h.2.2)]
            have e3 : ((g.length : Int) != n) = true := by simpa using h3
            clear hn hk h1 h2 h3
            go_enter Try.func40, Try.ntmps40
            go_wp2_with fail
            refine (implSize_any _ _ true D1.out).mono ?_; rintro e w1 ⟨rfl, rfl⟩
            go_wp2_with fail
            refine (implSize_any _ _ true D2.out).mono ?_; rintro e w1 ⟨rfl, rfl⟩
            go_wp2_with fail
            refine (implIsMap_any _ _ _ _ true Rf E1.out).mono ?_; rintro e w1 ⟨rfl, hb1⟩
            go_wp2_with fail
            refine (implIsMap_any _ _ _ _ true (rd_below hb1 Rg) E2.out).mono ?_; rintro e w2 ⟨rfl, hb2⟩
            go_wp2
            go_ret2
            exact retLI_nil (hb1.trans (hb2.mono hb1.size))
        · have E2 := Lib.hid (decide_eq_false h2)
          rw [if_neg (fun h => h2 h.2.1)]
          clear hn hk h1 h2
          go_enter Try.func40, Try.ntmps40
          go_wp2_with fail
          refine (implSize_any _ _ true D1.out).mono ?_; rintro e w1 ⟨rfl, rfl⟩
          go_wp2_with fail
          refine (implSize_any _ _ true D2.out).mono ?_; rintro e w1 ⟨rfl, rfl⟩
          go_wp2_with fail
          refine (implIsMap_any _ _ _ _ true Rf E1.out).mono ?_; rintro e w1 ⟨rfl, hb1⟩
          go_wp2_with fail
          refine (implIsMap_any _ _ _ _ false (rd_below hb1 Rg) E2.out).mono ?_; rintro e w2 ⟨rfl, hb2⟩
          go_wp2
          go_ret2
          exact retLI_nil (hb1.trans (hb2.mono hb1.size))
      · have E1 := Lib.hid (decide_eq_false h1)
        rw [if_neg (fun h => h1 h.1)]
        clear hn hk h1
        go_enter Try.func40, Try.ntmps40
        go_wp2_with fail
        refine (implSize_any _ _ true D1.out).mono ?_; rintro e w1 ⟨rfl, rfl⟩
        go_wp2_with fail
        refine (implSize_any _ _ true D2.out).mono ?_; rintro e w1 ⟨rfl, rfl⟩
        go_wp2_with fail
        refine (implIsMap_any _ _ _ _ false Rf E1.out).mono ?_; rintro e w1 ⟨rfl, hb1⟩
        go_wp2
        go_ret2
        exact retLI_nil hb1
    · have D2 := Lib.hid (decide_eq_false hk)
      rw [if_neg (fun h => hk h.2)]
      clear hn hk
      go_enter Try.func40, Try.ntmps40
      go_wp2_with fail
      refine (implSize_any _ _ true D1.out).mono ?_; rintro e w1 ⟨rfl, rfl⟩
      go_wp2_with fail
      refine (implSize_any _ _ false D2.out).mono ?_; rintro e w1 ⟨rfl, rfl⟩
      go_wp2
      go_ret2
      exact retLI_nil (Below.refl _ _)
  · have D1 := Lib.hid (decide_eq_false hn)
    rw [if_neg (fun h => hn h.1)]
    clear hn
    go_enter Try.func40, Try.ntmps40
    go_wp2_with fail
    refine (implSize_any _ _ false D1.out).mono ?_; rintro e w1 ⟨rfl, rfl⟩
    go_wp2
    go_ret2
    exact retLI_nil (Below.refl _ _)

end Go.Proofs.Ytdgffiilalabeaa
