
/- The source of the draws with its code named; the source as a thing of a walk. -/
import Derived.Laws.Bits64b
import Derived.StillTailTactics
import Derived.Test.YtfnneogadciimabDraw
import Derived.Test.YtfnneogadciimabRul7
set_option linter.unusedSimpArgs false
set_option linter.unusedVariables false
set_option linter.unusedSectionVars false
namespace Go.Proofs.Ytfnneogadciimab
open Go.RowKit
/-- The source behind v, in block g; its code lies below g. -/
def SrcX (a : Option Addr) (len cap : Nat) (w : World) (g : Nat) (v : Value) : Prop :=
  ∃ (p : Nat) (h : Int), v = .pointer (some ⟨g, 0, none⟩) ∧ w.heap[g]? = some (.cells #[.slice a len cap, .int .i64 p, .int .u64 h] 135 (0, 0)) ∧
    len ≤ 9223372036854775807 ∧ p ≤ len ∧ 0 ≤ h ∧ h < 18446744073709551616 ∧
    ∀ j, j < len → ∃ b off, a = some ⟨b, off, none⟩ ∧ b < g ∧ ∀ i, i < len → ∃ x : Int, w.cell? ⟨b, off + i, none⟩ = some (.int .u8 x) ∧ 0 ≤ x ∧ x < 256

theorem src_reX {w w' : World} {g len cap p : Nat} {a : Option Addr} {h : Int} (hgr : w.grownBy w' (some g)) (hg : w'.heap[g]? = some (.cells #[.slice a len cap, .int .i64 p, .int .u64 h] 135 (0, 0)))
    (hl : len ≤ 9223372036854775807) (hp : p ≤ len) (h0 : 0 ≤ h) (h1 : h < 18446744073709551616)
    (hc : ∀ j, j < len → ∃ b off, a = some ⟨b, off, none⟩ ∧ b < g ∧ ∀ i, i < len → ∃ x : Int, w.cell? ⟨b, off + i, none⟩ = some (.int .u8 x) ∧ 0 ≤ x ∧ x < 256) : SrcX a len cap w' g (.pointer (some ⟨g, 0, none⟩)) := by
  refine ⟨p, h, rfl, hg, hl, hp, h0, h1, fun j hj => ?_⟩
  obtain ⟨b, off, ha, hb, hcell⟩ := hc j hj
  refine ⟨b, off, ha, hb, fun i hi => ?_⟩
  obtain ⟨x, hx, hx0, hx1⟩ := hcell i hi
  exact ⟨x, hgr.cell hx (by simp; omega), hx0, hx1⟩

set_option maxHeartbeats 800000 in
theorem next_anyX (a : Option Addr) (len cap : Nat) (w : World) (g : Nat) (v : Value) (n : Int) (h : SrcX a len cap w g v) (hn : n ≤ 9223372036854775807) :
    Calls Try.prog 106 #[v, .int .i64 n] w (fun e w' => ∃ r : Int, e = .returned (.int .i64 r) ∧ 0 ≤ r ∧ (r < n ∨ r = 0) ∧ SrcX a len cap w' g v ∧ w.grownBy w' (some g)) := by
  have H := h
  obtain ⟨p, x, rfl, hg, hl, hp, hx0, hx1, hc⟩ := h
  by_cases h1 : n < 1
  · clear hg hc
    have H := Lib.hid H
    go_enter Try.func106, Try.ntmps106
    go_wp2
    go_ret
    exact ⟨0, rfl, by omega, .inr rfl, H.out, grown_refl _ _⟩
  · have HC := Lib.hid hc; clear hc H
    have c2 : w.cell? ⟨g, 2, none⟩ = some (.int .u64 x) := by rw [cell_of_row w g 2 _ _ (0, 0) hg]; rfl
    have fr := frozen_of_row w g 2 _ _ hg
    obtain ⟨y, hy, hy1⟩ := u64_nat (IntKind.u64.wrap (x * 6364136223846793005) + 1442695040888963407)
    obtain ⟨m, hm, hm1⟩ := mask24 y hy1
    have hm2 := Go.IntWalk.wrap64_in (m : Int) ⟨by omega, by omega⟩
    have HG := Lib.hid hg; clear hg
    go_enter Try.func106, Try.ntmps106
    go_wp2
    have hg1 : (w.setCell ⟨g, 2, none⟩ (.int .u64 (y : Int))).heap[g]? = some (.cells #[.slice a len cap, .int .i64 p, .int .u64 y] 135 (0, 0)) := heap_setCell_same w g 2 _ _ _ HG.out
    have hgr := src_put (i := 2) (u := .int .u64 (y : Int)) HG.out
    generalize w.setCell ⟨g, 2, none⟩ (.int .u64 (y : Int)) = w1 at hg1 hgr ⊢
    clear fr c2 hy hm hm2
    have d0 : w1.cell? ⟨g, 0, none⟩ = some (.slice a len cap) := by rw [cell_of_row w1 g 0 _ _ (0, 0) hg1]; rfl
    have d1 : w1.cell? ⟨g, 1, none⟩ = some (.int .i64 p) := by rw [cell_of_row w1 g 1 _ _ (0, 0) hg1]; rfl
    have fr := frozen_of_row w1 g 1 _ _ hg1
    have HG1 := Lib.hid hg1; have HGR := Lib.hid hgr; clear hg1 hgr
    by_cases hlt : p < len
    · obtain ⟨b, off, rfl, hb, hcell⟩ := HC.out p hlt
      obtain ⟨z, hz, hz0, hz1⟩ := hcell p hlt
      have d2 : w1.cell? ⟨b, off + p, none⟩ = some (.int .u8 z) := HGR.out.cell hz (by simp; omega)
      have hz2 := Go.IntWalk.wrap64_in z ⟨by omega, by omega⟩
      have hz3 := Go.IntWalk.wrap64_in (m + z) ⟨by omega, by omega⟩
      clear hcell
      go_quiet (fail)
      go_wp2
      go_quiet (fail)
      go_wp2
      go_ret
      have hgr := fun q => grown_trans (grown_quiet HGR.out q) (src_put (w := w1.drewN q) (i := 1) (u := .int .i64 ((p : Int) + 1)) HG1.out)
      exact ⟨_, rfl, Int.emod_nonneg _ (by omega), .inl (Int.emod_lt_of_pos _ (by omega)), src_reX (hgr _) (p := p + 1) (heap_setCell_same _ g 1 _ _ _ HG1.out) hl hlt (Int.natCast_nonneg y) (by omega) HC.out, hgr _⟩
    · go_quiet (fail)
      go_wp2
      go_ret
      have hgr := fun q => grown_quiet HGR.out q
      exact ⟨_, rfl, Int.emod_nonneg _ (by omega), .inl (Int.emod_lt_of_pos _ (by omega)), src_reX (hgr _) HG1.out hl hp (Int.natCast_nonneg y) (by omega) HC.out, hgr _⟩

theorem SrcX.keep {a : Option Addr} {len cap : Nat} {w w' : World} {g : Nat} {v : Value} (h : SrcX a len cap w g v) (hb : Below (g + 1) w w') : SrcX a len cap w' g v := by
  obtain ⟨p, x, hv, hg, hl, hp, h0, h1, hc⟩ := h
  have hs := (Array.getElem?_eq_some_iff.1 hg).1
  refine ⟨p, x, hv, by rw [hb.block g (by omega)]; exact hg, hl, hp, h0, h1, fun j hj => ?_⟩
  obtain ⟨b, off, ha, hbs, hcell⟩ := hc j hj
  refine ⟨b, off, ha, hbs, fun i hi => ?_⟩
  obtain ⟨z, hz, hz0, hz1⟩ := hcell i hi
  exact ⟨z, (hb.cell (p := ⟨b, off + i, none⟩) (by simp; omega)).trans hz, hz0, hz1⟩

set_option maxHeartbeats 800000 in
set_option maxRecDepth 100000 in
theorem pick_anyX (a : Option Addr) (len cap : Nat) (w : World) (g : Nat) (v u : Value) (xs : List Int) (h : SrcX a len cap w g v) (hu : Rd w u xs) (hne : 0 < xs.length) (hq : u.ownBlock ≠ some g) :
    Calls Try.prog 137 #[v, u] w (fun e w' => ∃ r : Int, e = .returned (.int .i64 r) ∧ r ∈ xs ∧ SrcX a len cap w' g v ∧ w.grownBy w' (some g)) := by
  obtain ⟨a2, cap2, rfl, hl, hc⟩ := hu
  obtain ⟨b, off, rfl, hb, hcell⟩ := hc 0 hne
  have hne2 : b ≠ g := fun e => hq (by rw [e]; rfl)
  have HC := Lib.hid hcell; clear hcell hc hq
  go_enter Try.func137, Try.ntmps137
  go_wp2_with fail
  refine (next_anyX _ _ _ _ g _ _ h (by omega)).mono ?_; rintro e w1 ⟨r, rfl, hr0, hr1, hs, hgr⟩
  obtain ⟨k, rfl⟩ := Int.eq_ofNat_of_zero_le hr0
  have hk : k < xs.length := by omega
  have c1 : w1.cell? ⟨b, off + k, none⟩ = some (.int .i64 (xs.getD k 0)) := hgr.cell (HC.out k hk) (by simp; omega)
  clear hr1
  go_wp2
  go_ret
  exact ⟨_, rfl, by simp, hs, hgr⟩

theorem SrcX.lt {a : Option Addr} {len cap : Nat} {w : World} {g : Nat} {v : Value} (h : SrcX a len cap w g v) : g < w.heap.size := by
  obtain ⟨p, x, hv, hg, _⟩ := h
  exact (Array.getElem?_eq_some_iff.1 hg).1

theorem SrcX.alloc {a : Option Addr} {len cap : Nat} {w : World} {g : Nat} {v : Value} (h : SrcX a len cap w g v) (o : Obj) : SrcX a len cap (w.alloc o) g v := h.keep ((Below.refl _ _).alloc h.lt o)

set_option maxHeartbeats 800000 in
set_option maxRecDepth 100000 in
theorem count_anyX (a : Option Addr) (len cap : Nat) (w : World) (g : Nat) (v : Value) (h : SrcX a len cap w g v) :
    Calls Try.prog 105 #[v] w (fun e w' => ∃ r : Int, e = .returned (.int .i64 r) ∧ CountP r ∧ SrcX a len cap w' g v ∧ w.grownBy w' (some g)) := by
  go_enter Try.func105, Try.ntmps105
  go_wp2_with fail
  refine (next_anyX _ _ _ _ g _ _ h (by omega)).mono ?_; rintro e w1 ⟨r, rfl, hr0, hr1, hs, hgr⟩
  by_cases hr : r = 0
  · subst hr
    go_wp2_with fail
    have hL := lit4 w1 (-1) 257 256 9223372036854775807
    refine (pick_anyX _ _ _ _ g _ _ _ (hs.alloc _) hL.rd (by simp) (not_own hL hs.lt)).mono ?_; rintro e w2 ⟨r2, rfl, hr2, hs2, hgr2⟩
    go_wp2
    go_ret
    refine ⟨_, rfl, ?_, hs2, grown_trans hgr (grown_alloc hgr2)⟩
    simp at hr2
    unfold CountP
    omega
  · have hr2 : (r == 0) = false := by simpa using hr
    go_wp2_with fail
    refine (next_anyX _ _ _ _ g _ _ hs (by omega)).mono ?_; rintro e w2 ⟨r2, rfl, hr20, hr21, hs2, hgr2⟩
    go_wp2
    go_ret
    exact ⟨_, rfl, ⟨by omega, by omega⟩, hs2, grown_trans hgr hgr2⟩

set_option maxHeartbeats 800000 in
set_option maxRecDepth 100000 in
theorem maps_anyX (a : Option Addr) (len cap : Nat) (w : World) (g : Nat) (v : Value) (m n : Int) (h : SrcX a len cap w g v) (hn : n ≤ 9223372036854775807) :
    Calls Try.prog 107 #[v, .int .i64 m, .int .i64 n] w (fun e w' => ∃ (xs : List Int) (y : Value), e = .returned y ∧ Sl w' w.heap.size y xs ∧ xs.length ≤ 301 ∧ SrcX a len cap w' g v ∧ w.grownBy w' (some g)) := by
  have hgw := h.lt
  go_enter Try.func107, Try.ntmps107
  go_wp2
  go_loopw [7, 8] (fun u i wr => ∃ (k : Nat) (xs : List Int), k ≤ 300 ∧ i = .int .i64 k ∧ xs.length = k ∧ Sl wr w.heap.size u xs ∧ SrcX a len cap wr g v ∧ w.grownBy wr (some g)) (fun _ i _ => 301 - (intOf i).toNat)
  case atStart => exact ⟨0, [], by omega, rfl, rfl, sl_empty w, h.alloc _, World.grownBy_alloc _ _ _⟩
  case round =>
    obtain ⟨k, xs, hk, rfl, hlen, hs, hsrc, hgr⟩ := hrel
    by_cases h1 : (k : Int) < m
    · by_cases h2 : 0 < n
      · by_cases h3 : k < 300
        · go_wp2_with fail
          all_goals
            refine (next_anyX _ _ _ _ g _ _ hsrc (by omega)).mono ?_; rintro e w1 ⟨r, rfl, hr0, hr1, hs1, hgr1⟩
            have hx1 := sl_kept hs hgr1 (.inr (not_own hs hgw))
            have hga := grown_trans hgr hgr1
            go_wp2_with (at_builtin; refine wp_app64 rfl _ _ _ rfl Try.underlying22 r hx1 rfl rfl (by omega) hga.size ?_; intro v1 w3 hx3 hg3)
            go_roundw
            case rel => exact ⟨k + 1, _, by omega, by go_num, by simp [hlen], hx3, hs1.keep ((Below.refl (g + 1) _).grown hg3 hs1.lt fun j hj => by have := (hx1.1.lt j hj).1; omega), grown_mix hga hx1 hg3⟩
            case measure => simp [intOf]; omega
        · go_wp2_with fail
          refine (next_anyX _ _ _ _ g _ _ hsrc (by omega)).mono ?_; rintro e w1 ⟨r, rfl, hr0, hr1, hs1, hgr1⟩
          have hx1 := sl_kept hs hgr1 (.inr (not_own hs hgw))
          have hga := grown_trans hgr hgr1
          by_cases hr : r = 0
          · subst hr
            go_wp2_with fail
            have hL := lit3 w1 0 n (-1)
            refine (pick_anyX _ _ _ _ g _ _ _ (hs1.alloc _) hL.rd (by simp) (not_own hL hs1.lt)).mono ?_; rintro e w2 ⟨r2, rfl, hr2, hs2, hgr2⟩
            have hx2 := sl_kept (sl_alloc hx1 _) hgr2 (.inr (not_own hx1 hgw))
            have hgb := grown_trans hga (grown_alloc hgr2)
            go_wp2_with (at_builtin; refine wp_app64 rfl _ _ _ rfl Try.underlying22 r2 hx2 rfl rfl (by omega) hgb.size ?_; intro v1 w3 hx3 hg3)
            go_ret
            exact ⟨_, _, rfl, hx3, by simp; omega, hs2.keep ((Below.refl (g + 1) _).grown hg3 hs2.lt fun j hj => by have := (hx2.1.lt j hj).1; omega), grown_mix hgb hx2 hg3⟩
          · have hr2 : (r == 0) = false := by simpa using hr
            go_wp2
            go_ret
            exact ⟨_, _, rfl, hx1, by omega, hs1, hga⟩
      · go_wp2_with fail
        refine (next_anyX _ _ _ _ g _ _ hsrc (by omega)).mono ?_; rintro e w1 ⟨r, rfl, hr0, hr1, hs1, hgr1⟩
        have hx1 := sl_kept hs hgr1 (.inr (not_own hs hgw))
        have hga := grown_trans hgr hgr1
        by_cases hr : r = 0
        · subst hr
          go_wp2_with fail
          have hL := lit3 w1 0 n (-1)
          refine (pick_anyX _ _ _ _ g _ _ _ (hs1.alloc _) hL.rd (by simp) (not_own hL hs1.lt)).mono ?_; rintro e w2 ⟨r2, rfl, hr2, hs2, hgr2⟩
          have hx2 := sl_kept (sl_alloc hx1 _) hgr2 (.inr (not_own hx1 hgw))
          have hgb := grown_trans hga (grown_alloc hgr2)
          go_wp2_with (at_builtin; refine wp_app64 rfl _ _ _ rfl Try.underlying22 r2 hx2 rfl rfl (by omega) hgb.size ?_; intro v1 w3 hx3 hg3)
          go_ret
          exact ⟨_, _, rfl, hx3, by simp; omega, hs2.keep ((Below.refl (g + 1) _).grown hg3 hs2.lt fun j hj => by have := (hx2.1.lt j hj).1; omega), grown_mix hgb hx2 hg3⟩
        · have hr2 : (r == 0) = false := by simpa using hr
          go_wp2
          go_ret
          exact ⟨_, _, rfl, hx1, by omega, hs1, hga⟩
    · go_wp2_with fail
      refine (next_anyX _ _ _ _ g _ _ hsrc (by omega)).mono ?_; rintro e w1 ⟨r, rfl, hr0, hr1, hs1, hgr1⟩
      have hx1 := sl_kept hs hgr1 (.inr (not_own hs hgw))
      have hga := grown_trans hgr hgr1
      by_cases hr : r = 0
      · subst hr
        go_wp2_with fail
        have hL := lit3 w1 0 n (-1)
        refine (pick_anyX _ _ _ _ g _ _ _ (hs1.alloc _) hL.rd (by simp) (not_own hL hs1.lt)).mono ?_; rintro e w2 ⟨r2, rfl, hr2, hs2, hgr2⟩
        have hx2 := sl_kept (sl_alloc hx1 _) hgr2 (.inr (not_own hx1 hgw))
        have hgb := grown_trans hga (grown_alloc hgr2)
        go_wp2_with (at_builtin; refine wp_app64 rfl _ _ _ rfl Try.underlying22 r2 hx2 rfl rfl (by omega) hgb.size ?_; intro v1 w3 hx3 hg3)
        go_ret
        exact ⟨_, _, rfl, hx3, by simp; omega, hs2.keep ((Below.refl (g + 1) _).grown hg3 hs2.lt fun j hj => by have := (hx2.1.lt j hj).1; omega), grown_mix hgb hx2 hg3⟩
      · have hr2 : (r == 0) = false := by simpa using hr
        go_wp2
        go_ret
        exact ⟨_, _, rfl, hx1, by omega, hs1, hga⟩

set_option maxHeartbeats 800000 in
set_option maxRecDepth 100000 in
theorem from_anyX (a : Option Addr) (len cap : Nat) (w : World) (h : InB w (.slice a len cap)) :
    Calls Try.prog 104 #[.slice a len cap] w (fun e w' => ∃ (g : Nat) (y : Value), e = .returned y ∧ SrcX a len cap w' g y ∧ w.heap.size ≤ g ∧ Below w.heap.size w w') := by
  obtain ⟨a3, len3, cap3, he, hl, hc⟩ := h
  simp only [Value.slice.injEq] at he
  obtain ⟨rfl, rfl, rfl⟩ := he
  have HC := Lib.hid hc; clear hc
  go_enter Try.func104, Try.ntmps104
  go_wp2
  go_loopw [4] (fun i wr => ∃ (k : Nat) (x : Int), i = .int .i64 k ∧ k ≤ len ∧ k ≤ 4096 ∧ wr.heap[w.heap.size]? = some (.cells #[.slice a len cap, .int .i64 0, .int .u64 x] 135 (0, 0)) ∧ 0 ≤ x ∧ x < 18446744073709551616 ∧ Below w.heap.size w wr) (fun i _ => 4097 - (intOf i).toNat)
  case atStart => exact ⟨0, 7019 + (len : Int), rfl, Nat.zero_le _, by omega, Array.getElem?_push_size, by omega, by omega, (Below.refl _ _).alloc (Nat.le_refl _) _⟩
  case round =>
    obtain ⟨k, x, rfl, hk, hk2, hg, hx0, hx1, hbel⟩ := hrel
    by_cases h1 : k < len
    · by_cases h2 : k < 4096
      · obtain ⟨b, off, rfl, hb, hcell⟩ := HC.out k h1
        obtain ⟨z, hz, hz0, hz1⟩ := hcell k h1
        have c1 : wr.cell? ⟨b, off + k, none⟩ = some (.int .u8 z) := (hbel.cell (p := ⟨b, off + k, none⟩) hb).trans hz
        have c2 : wr.cell? ⟨w.heap.size, 2, none⟩ = some (.int .u64 x) := by rw [cell_of_row wr _ 2 _ _ (0, 0) hg]; rfl
        have fr := frozen_of_row wr w.heap.size 2 _ _ hg
        obtain ⟨y, hy, hy1⟩ := u64_nat (IntKind.u64.wrap (IntKind.u64.wrap (x * 1099511628211) + z) + 7)
        have HG := Lib.hid hg
        clear hcell hz hg
        go_wp2
        go_still_tail 13, (by kernel_rfl)
        go_wp2
        go_roundw
        case rel => exact ⟨k + 1, (y : Int), by go_num, h1, h2, heap_setCell_same wr w.heap.size 2 _ _ _ HG.out, Int.natCast_nonneg y, by omega, (hbel.setCell (Nat.le_refl _) _).drew⟩
        case measure => simp [intOf]; omega
      · have HG := Lib.hid hg; clear hg
        go_wp2
        go_ret
        exact ⟨w.heap.size, _, rfl, ⟨0, x, rfl, HG.out, hl, Nat.zero_le _, hx0, hx1, code_up hbel HC.out⟩, Nat.le_refl _, hbel⟩
    · have HG := Lib.hid hg; clear hg
      go_wp2
      go_ret
      exact ⟨w.heap.size, _, rfl, ⟨0, x, rfl, HG.out, hl, Nat.zero_le _, hx0, hx1, code_up hbel HC.out⟩, Nat.le_refl _, hbel⟩

/-! ### The source as a thing of a walk -/
def SrcS (ca : Option Addr) (cl cc g : Nat) (w : World) (S : Nat → Prop) : Prop := S g ∧ ∃ (p : Nat) (h : Int), w.heap[g]? = some (.cells #[.slice ca cl cc, .int .i64 p, .int .u64 h] 135 (0, 0)) ∧ p ≤ cl ∧ 0 ≤ h ∧ h < 18446744073709551616
theorem srcS_loc (ca : Option Addr) (cl cc g : Nat) : Loc (SrcS ca cl cc g) where
  keep hs ha h := by
    obtain ⟨h1, p, x, hg, r⟩ := h
    have hlt := (Array.getElem?_eq_some_iff.1 hg).1
    exact ⟨hs g hlt h1, p, x, by rw [ha g hlt h1]; exact hg, r⟩
def srcI (ca : Option Addr) (cl cc g : Nat) : Itm := ⟨_, srcS_loc ca cl cc g⟩
section
variable {w0 w w' : World} {is : List Itm} {n : Nat} {ca : Option Addr} {cl cc g : Nat}
theorem src_get (hI : InB w0 (.slice ca cl cc)) (M : Mem w0 w is) (h : is[n]? = some (srcI ca cl cc g)) : SrcX ca cl cc w g (.pointer (some ⟨g, 0, none⟩)) ∧ w0.heap.size ≤ g := by
  obtain ⟨S, hS, hp⟩ := mem_get M h
  obtain ⟨h1, p, x, hg, hp1, hx0, hx1⟩ := (hp : SrcS ca cl cc g w S)
  obtain ⟨a3, l3, c3, he, hl, hc⟩ := hI
  simp only [Value.slice.injEq] at he
  obtain ⟨rfl, rfl, rfl⟩ := he
  have hgs := hS g h1
  refine ⟨⟨p, x, rfl, hg, hl, hp1, hx0, hx1, fun j hj => ?_⟩, hgs⟩
  obtain ⟨b, off, ha, hb, hcell⟩ := hc j hj
  refine ⟨b, off, ha, by omega, fun i hi => ?_⟩
  obtain ⟨z, hz, hz0, hz1⟩ := hcell i hi
  exact ⟨z, (M.1.cell (p := ⟨b, off + i, none⟩) hb).trans hz, hz0, hz1⟩
theorem srcS_of {S : Nat → Prop} (h : SrcX ca cl cc w g (.pointer (some ⟨g, 0, none⟩))) (hS : S g) : SrcS ca cl cc g w S := by
  obtain ⟨p, x, _, hg, _, hp, h0, h1, _⟩ := h
  exact ⟨hS, p, x, hg, hp, h0, h1⟩
theorem star_src {i : Itm} {S1 : Nat → Prop} : ∀ (is : List Itm) {n : Nat} {w : World} {S : Nat → Prop}, is[n]? = some (srcI ca cl cc g) → w.grownBy w' (some g) → SrcX ca cl cc w' g (.pointer (some ⟨g, 0, none⟩)) → Star is w S → Star is w' (fun k => S k ∧ k < w.heap.size)
  | [], n, _, _, h, _, _, _ => by simp at h
  | j :: is, 0, w, S, h, hg, hx, hs => by
    simp only [List.getElem?_cons_zero, Option.some.injEq] at h
    subst h
    obtain ⟨T1, T2, k1, k2, hd, h1, h2⟩ := hs
    have h1' : SrcS ca cl cc g w T1 := h1
    have hlt : g < w.heap.size := by obtain ⟨_, p, x, hgg, _⟩ := h1'; exact (Array.getElem?_eq_some_iff.1 hgg).1
    refine ⟨fun k => T1 k ∧ k < w.heap.size, fun k => T2 k ∧ k < w.heap.size, fun k h => ⟨k1 k h.1, h.2⟩, fun k h => ⟨k2 k h.1, h.2⟩, fun k a b => hd k a.1 b.1, (srcS_of hx ⟨h1'.1, hlt⟩ : SrcS ca cl cc g w' (fun k => T1 k ∧ k < w.heap.size)), ?_⟩
    exact star_keep is (fun k hk hs => ⟨hs, hk⟩) (fun k hk hs => hg.block k hk (fun e => hd g h1'.1 (by simp only [Option.some.injEq] at e; subst e; exact hs))) h2
  | j :: is, n + 1, w, S, h, hg, hx, hs => by
    obtain ⟨T1, T2, k1, k2, hd, h1, h2⟩ := hs
    have hh : is[n]? = some (srcI ca cl cc g) := by simpa using h
    obtain ⟨U, hU, hu⟩ := star_get is hh h2
    have hu' : SrcS ca cl cc g w U := hu
    refine ⟨fun k => T1 k ∧ k < w.heap.size, fun k => T2 k ∧ k < w.heap.size, fun k h => ⟨k1 k h.1, h.2⟩, fun k h => ⟨k2 k h.1, h.2⟩, fun k a b => hd k a.1 b.1, ?_, ?_⟩
    · exact j.loc.keep (fun k hk hs => ⟨hs, hk⟩) (fun k hk hs => hg.block k hk (fun e => hd k hs (by simp only [Option.some.injEq] at e; subst e; exact hU _ hu'.1))) h1
    · exact star_src (i := i) (S1 := S1) is hh hg hx h2
theorem src_below (M : Mem w0 w is) (hg0 : w0.heap.size ≤ g) (hg : w.grownBy w' (some g)) : Below w0.heap.size w0 w' := below_src M.1 hg0 hg
theorem mem_src (M : Mem w0 w is) (h : is[n]? = some (srcI ca cl cc g)) (hg0 : w0.heap.size ≤ g) (hg : w.grownBy w' (some g)) (hx : SrcX ca cl cc w' g (.pointer (some ⟨g, 0, none⟩))) : Mem w0 w' is :=
  ⟨src_below M hg0 hg, star_keep is (fun k _ hk => hk.1) agree_refl (star_src (i := srcI ca cl cc g) (S1 := fun _ => True) is h hg hx M.2)⟩
theorem mem_srcL {y : Value} {xs : List Int} (M : Mem w0 w is) (h : is[n]? = some (srcI ca cl cc g)) (hg0 : w0.heap.size ≤ g) (hg : w.grownBy w' (some g)) (hx : SrcX ca cl cc w' g (.pointer (some ⟨g, 0, none⟩))) (hl : Sl w' w.heap.size y xs) : Mem w0 w' (is ++ [own1I y xs]) := by
  refine ⟨src_below M hg0 hg, star_app is [own1I y xs] (S1 := fun k => w0.heap.size ≤ k ∧ k < w.heap.size) (S2 := fun k => w.heap.size ≤ k) (fun k h => h.1) (fun k h => Nat.le_trans M.1.size h) (fun k a b => by have := a.2; omega) (star_src (i := srcI ca cl cc g) (S1 := fun _ => True) is h hg hx M.2) ?_⟩
  exact ⟨_, fun _ => False, fun k h => h, fun k h => h.elim, fun k _ h => h, own1_of hl, trivial⟩
end
section
variable {w0 : World} {is : List Itm} {Q : Exit → Act → World → Prop} {o : Oper} {N : Frm} {n : Nat} {e : Env} {d : Nat} {K : Act → World → Prop} {f : FuncId} {fn : Func} {ags : Array Operand} {ts : Array TypeId} {ca : Option Addr} {cl cc g : Nat}
theorem go_srcFrom (hd : o.dst = some d) (hN : Nat.blt d N = true) (hop : o.op = .call { callee := .value (.func 104), args := ags, argTypes := ts }) (hfn : Try.prog.funcs[104]? = some fn) (hb : fn.body.isNone = false) (hn : (fn.name == "runtime.NumGoroutine") = false)
    (hargs : evoL e ags.toList = some [.slice ca cl cc]) (hI : InB w0 (.slice ca cl cc))
    (hk : ∀ g : Nat, GK w0 (is ++ [srcI ca cl cc g]) N K ((d, .pointer (some ⟨g, 0, none⟩)) :: e)) : GO w0 is N o e Q K := by
  intro w a M F
  refine go_call hd hN F hop hfn hb hn hargs (from_anyX ca cl cc w (inb_below M.1 hI)) fun e' w' hR => ?_
  obtain ⟨g, y, rfl, hs, hg, hbl⟩ := hR
  have hs' := hs
  obtain ⟨p, x, rfl, hgg, _⟩ := hs'
  exact ⟨_, rfl, fun a F => hk g w' a (mem_new M hbl (srcS_of hs hg)) F⟩
theorem go_srcNext {k : Int} (hd : o.dst = some d) (hN : Nat.blt d N = true) (hop : o.op = .call { callee := .value (.func 106), args := ags, argTypes := ts }) (hfn : Try.prog.funcs[106]? = some fn) (hb : fn.body.isNone = false) (hn : (fn.name == "runtime.NumGoroutine") = false)
    (hargs : evoL e ags.toList = some [.pointer (some ⟨g, 0, none⟩), .int .i64 k]) (hI : InB w0 (.slice ca cl cc)) (hi : is[n]? = some (srcI ca cl cc g)) (hk0 : k ≤ 9223372036854775807)
    (hk : ∀ r : Nat, ((r : Int) < k ∨ (r : Int) = 0) → GK w0 is N K ((d, .int .i64 (r : Int)) :: e)) : GO w0 is N o e Q K := by
  intro w a M F
  have hs := src_get hI M hi
  refine go_call hd hN F hop hfn hb hn hargs (next_anyX ca cl cc w g _ k hs.1 hk0) fun e' w' hR => ?_
  obtain ⟨r, rfl, h0, h1, hs2, hgr⟩ := hR
  obtain ⟨r, rfl⟩ := Int.eq_ofNat_of_zero_le h0
  exact ⟨_, rfl, fun a F => hk r h1 w' a (mem_src M hi hs.2 hgr hs2) F⟩
theorem go_srcCount (hd : o.dst = some d) (hN : Nat.blt d N = true) (hop : o.op = .call { callee := .value (.func 105), args := ags, argTypes := ts }) (hfn : Try.prog.funcs[105]? = some fn) (hb : fn.body.isNone = false) (hn : (fn.name == "runtime.NumGoroutine") = false)
    (hargs : evoL e ags.toList = some [.pointer (some ⟨g, 0, none⟩)]) (hI : InB w0 (.slice ca cl cc)) (hi : is[n]? = some (srcI ca cl cc g))
    (hk : ∀ r : Int, CountP r → GK w0 is N K ((d, .int .i64 r) :: e)) : GO w0 is N o e Q K := by
  intro w a M F
  have hs := src_get hI M hi
  refine go_call hd hN F hop hfn hb hn hargs (count_anyX ca cl cc w g _ hs.1) fun e' w' hR => ?_
  obtain ⟨r, rfl, h0, hs2, hgr⟩ := hR
  exact ⟨_, rfl, fun a F => hk r h0 w' a (mem_src M hi hs.2 hgr hs2) F⟩
theorem go_srcMaps {m k : Int} (hd : o.dst = some d) (hN : Nat.blt d N = true) (hop : o.op = .call { callee := .value (.func 107), args := ags, argTypes := ts }) (hfn : Try.prog.funcs[107]? = some fn) (hb : fn.body.isNone = false) (hn : (fn.name == "runtime.NumGoroutine") = false)
    (hargs : evoL e ags.toList = some [.pointer (some ⟨g, 0, none⟩), .int .i64 m, .int .i64 k]) (hI : InB w0 (.slice ca cl cc)) (hi : is[n]? = some (srcI ca cl cc g)) (hk0 : k ≤ 9223372036854775807)
    (hk : ∀ (xs : List Int) (a : Option Addr) (c : Nat), xs.length ≤ 301 → GK w0 (is ++ [own1I (.slice a xs.length c) xs]) N K ((d, .slice a xs.length c) :: e)) : GO w0 is N o e Q K := by
  intro w a M F
  have hs := src_get hI M hi
  refine go_call hd hN F hop hfn hb hn hargs (maps_anyX ca cl cc w g _ m k hs.1 hk0) fun e' w' hR => ?_
  obtain ⟨xs, y, rfl, hx, hl, hs2, hgr⟩ := hR
  obtain ⟨ya, yc, rfl⟩ := rd_form hx.rd
  exact ⟨_, rfl, fun a F => hk xs ya yc hl w' a (mem_srcL M hi hs.2 hgr hs2 hx) F⟩
end
end Go.Proofs.Ytfnneogadciimab
