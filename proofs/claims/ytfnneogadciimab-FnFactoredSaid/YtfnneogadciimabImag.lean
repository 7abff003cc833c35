
/- ImageOf and FactorMap: the program and its model. -/
import Derived.Test.YtfnneogadciimabLib3
import Derived.Test.YtfnneogadciimabIdx
import Derived.Test.YtfnneogadciimabKernel
set_option linter.unusedSimpArgs false
set_option linter.unusedVariables false
set_option linter.unusedSectionVars false
namespace Go.Proofs.Ytfnneogadciimab
open Go.RowKit

def fImageOf (n : Int) (f : List Int) : List Int × Int := if codeM n f = 0 then (imgL n.toNat f, 0) else ([], codeM n f)

theorem upTo_len_le (n k : Nat) (f : List Int) : ((upTo 0 k).filter fun y => decide (y ∈ f)).length ≤ k := by
  have := List.length_filter_le (fun y => decide (y ∈ f)) (upTo 0 k)
  rw [upTo_length] at this
  exact this

set_option maxHeartbeats 400000 in
theorem specHas_any (w : World) (v : Value) (l : List Int) (x : Int) (b : Bool) (h : Rd w v l) (hb : decide (x ∈ l) = b) :
    Calls Try.prog 133 #[v, .int .i64 x] w (RetB w b) := by
  obtain ⟨a, cap, rfl, hl, hc⟩ := h
  have HC := Lib.hid hc; clear hc
  have HB := Lib.hid hb; clear hb
  go_enter Try.func133, Try.ntmps133
  go_wp2
  go_loopw [5] (fun i wr => ∃ k : Nat, k ≤ l.length ∧ i = .int .i64 k ∧ Hid (∀ j, j < k → l.getD j 0 ≠ x) ∧ Below w.heap.size w wr) (fun i _ => l.length - (intOf i).toNat)
  case atStart => exact ⟨0, Nat.zero_le _, rfl, fun j hj => absurd hj (by omega), Below.refl _ _⟩
  case round =>
    obtain ⟨k, hk, rfl, hall, hbel⟩ := hrel
    by_cases hlt : k < l.length
    · obtain ⟨bb, off, rfl, hbs, hcell⟩ := HC.out k hlt
      have c1 : wr.cell? ⟨bb, off + k, none⟩ = some (.int .i64 (l.getD k 0)) := (hbel.cell (p := ⟨bb, off + k, none⟩) hbs).trans (hcell k hlt)
      clear hcell
      obtain ⟨y, hy⟩ : ∃ y, y = l.getD k 0 := ⟨_, rfl⟩
      rw [← hy] at c1
      have HY := Lib.hid hy; clear hy
      by_cases hxy : y = x
      · have h1 : l.getD k 0 = x := by rw [← HY.out]; exact hxy
        obtain rfl := bT HB.out (mem_of_getD hlt h1)
        clear h1
        have ht : (y == x) = true := by simpa using hxy
        clear hxy
        go_wp2
        go_ret
        exact ⟨rfl, hbel⟩
      · have ht : (y == x) = false := by simpa using hxy
        have HN := Lib.hid hxy; clear hxy
        go_wp2
        go_roundw
        case rel =>
          refine ⟨k + 1, by omega, by go_num, fun j hj => ?_, hbel⟩
          by_cases hjk : j = k
          · subst hjk; rw [← HY.out]; exact HN.out
          · exact hall.out j (by omega)
        case measure => simp [intOf]; omega
    · obtain rfl : k = l.length := by omega
      obtain rfl := bF HB.out (not_mem_of hall.out)
      go_wp2
      go_ret
      exact ⟨rfl, hbel⟩

set_option maxHeartbeats 800000 in
set_option maxRecDepth 100000 in
theorem specImage_any (w : World) (n : Nat) (v : Value) (f : List Int) (h : Rd w v f) (hn : n ≤ 256) :
    Calls Try.prog 96 #[.int .i64 n, v] w (RetL w (imgL n f)) := by
  go_enter Try.func96, Try.ntmps96
  go_wp2
  have hbe : Below w.heap.size w (w.alloc (.cells #[] 2)) := (Below.refl _ _).alloc (Nat.le_refl _) _
  have HE := Lib.hid (sl_empty w)
  go_loopw [5, 6] (fun x i wr => ∃ k : Nat, k ≤ n ∧ i = .int .i64 k ∧ Sl wr w.heap.size x (imgL k f) ∧ Below w.heap.size w wr) (fun _ i _ => n - (intOf i).toNat)
  case atStart => exact ⟨0, Nat.zero_le _, rfl, by simpa [imgL, upTo] using HE.out, hbe⟩
  case round =>
    obtain ⟨k, hk, rfl, hs, hbel⟩ := hrel
    have hln := upTo_len_le n k f
    have hsn : imgL (k + 1) f = imgL k f ++ (if (k : Int) ∈ f then [(k : Int)] else []) := by
      unfold imgL
      rw [upTo_succ, List.filter_append]
      by_cases hm : (k : Int) ∈ f <;> simp [hm]
    by_cases hlt : k < n
    · by_cases hm : (k : Int) ∈ f
      · rw [if_pos hm] at hsn
        have D := Lib.hid (decide_eq_true hm); have HSN := Lib.hid hsn; clear hm hsn
        have hln2 : (imgL k f).length ≤ k := hln
        go_wp2_with fail
        refine (specHas_any _ _ f (k : Int) true (rd_below hbel h) D.out).mono ?_; rintro e w1 ⟨rfl, hb1⟩
        have hs' := sl_below hb1 hs
        have hbel' := hbel.trans (hb1.mono hbel.size)
        go_wp2_with (at_builtin; refine wp_app64 rfl _ _ _ rfl Try.underlying22 (k : Int) hs' rfl rfl (by omega) hbel'.size ?_; intro v1 w2 hs1 hg1)
        go_roundw
        case rel => exact ⟨k + 1, by omega, by go_num, by rw [HSN.out]; exact hs1, below_grown hbel' hs' (Nat.le_refl _) hg1⟩
        case measure => simp [intOf]; omega
      · rw [if_neg hm, List.append_nil] at hsn
        have D := Lib.hid (decide_eq_false hm); have HSN := Lib.hid hsn; clear hm hsn
        go_wp2_with fail
        refine (specHas_any _ _ f (k : Int) false (rd_below hbel h) D.out).mono ?_; rintro e w1 ⟨rfl, hb1⟩
        go_wp2
        go_roundw
        case rel => exact ⟨k + 1, by omega, by go_num, by rw [HSN.out]; exact sl_below hb1 hs, hbel.trans (hb1.mono hbel.size)⟩
        case measure => simp [intOf]; omega
    · obtain rfl : k = n := by omega
      clear hsn
      go_wp2
      go_ret
      exact ⟨_, rfl, hs, hbel⟩

set_option maxHeartbeats 800000 in
set_option maxRecDepth 100000 in
theorem impl_ImageOf (w : World) (n : Int) (v : Value) (f : List Int) (h : Rd w v f) :
    Calls Try.prog 44 #[.int .i64 n, v] w (RetLI w (fImageOf n f).1 (fImageOf n f).2) := by
  obtain ⟨c, hc⟩ : ∃ c, codeM n f = c := ⟨_, rfl⟩
  unfold fImageOf
  rw [hc]
  by_cases h0 : c = 0
  · subst h0
    rw [if_pos rfl]
    have hmap := codeM_map hc
    have hall : AllP n.toNat f := fun x hx => by have := hmap.2.2 x hx; omega
    rw [← sort_compact hall]
    have HC := Lib.hid hc; clear hc hmap hall
    go_enter Try.func44, Try.ntmps44
    go_wp2_with fail
    refine (implCode_any _ _ _ _ 0 h HC.out).mono ?_; rintro e w1 ⟨rfl, hb1⟩
    go_wp2_with fail
    refine (clone_any _ _ _ (rd_below hb1 h)).mono ?_; rintro e w2 ⟨y, rfl, hs, hb2⟩
    have hs2 := hs.mono hb1.size
    have hb := hb1.trans (hb2.mono hb1.size)
    go_wp2_with fail
    refine (sort_any _ _ _ _ hs2).mono ?_; rintro e w3 ⟨rfl, hs3, hg3⟩
    have hb3 := below_grown hb hs2 (Nat.le_refl _) hg3
    go_wp2_with fail
    refine (compact_any _ _ _ _ hs3).mono ?_; rintro e w4 ⟨z, rfl, hs4, hg4⟩
    have hb4 := below_grown hb3 hs3 (Nat.le_refl _) hg4
    go_wp2
    go_ret2
    exact ⟨_, rfl, hs4, hb4⟩
  · have HC := Lib.hid hc; clear hc
    rw [if_neg h0]
    have hne : (c != 0) = true := by simpa using h0
    clear h0
    go_enter Try.func44, Try.ntmps44
    go_wp2_with fail
    refine (implCode_any _ _ _ _ c h HC.out).mono ?_; rintro e w1 ⟨rfl, hb1⟩
    go_wp2
    go_ret2
    exact retLI_nil hb1

end Go.Proofs.Ytfnneogadciimab
