
/- The source of the draws: a struct of three fields in a block of its own. -/
import Derived.Laws.Bits64b
import Derived.StillTailTactics
import Derived.Test.YtgkfampgofjkfaaBase
set_option linter.unusedSimpArgs false
set_option linter.unusedVariables false
set_option linter.unusedSectionVars false
namespace Go.Proofs.Ytgkfampgofjkfaa
open Go.RowKit

/-- The source behind v, in block g; its code lies below g. -/
def Src (w : World) (g : Nat) (v : Value) : Prop :=
  ∃ (a : Option Addr) (len cap p : Nat) (h : Int), v = .pointer (some ⟨g, 0, none⟩) ∧ w.heap[g]? = some (.cells #[.slice a len cap, .int .i64 p, .int .u64 h] 115 (0, 0)) ∧
    len ≤ 9223372036854775807 ∧ p ≤ len ∧ 0 ≤ h ∧ h < 18446744073709551616 ∧
    ∀ j, j < len → ∃ b off, a = some ⟨b, off, none⟩ ∧ b < g ∧ ∀ i, i < len → ∃ x : Int, w.cell? ⟨b, off + i, none⟩ = some (.int .u8 x) ∧ 0 ≤ x ∧ x < 256

theorem u64_nat (z : Int) : ∃ y : Nat, IntKind.u64.wrap z = (y : Int) ∧ y < 18446744073709551616 := by
  have h : IntKind.u64.wrap z = z % 18446744073709551616 := rfl
  refine ⟨(z % 18446744073709551616).toNat, by rw [h]; omega, by omega⟩

theorem mask24 (y : Nat) (hy : y < 18446744073709551616) : ∃ m : Nat, bits .and .u64 ((y : Int) / 8589934592) 16777215 = (m : Int) ∧ m ≤ 16777215 := by
  refine ⟨(y / 8589934592) &&& 16777215, ?_, Nat.and_le_right⟩
  have := bits_and_u64_nat (y / 8589934592) 16777215 (by omega) (by omega)
  simpa using this

theorem src_put {w : World} {g i : Nat} {u : Value} {cs : Array Value} {t : TypeId} (hg : w.heap[g]? = some (.cells cs t (0, 0))) : w.grownBy (w.setCell ⟨g, i, none⟩ u) (some g) :=
  ⟨rfl, rfl, rfl, by simp, fun k _ hk => heap_setCell_other w ⟨g, i, none⟩ k u (fun e => hk (by rw [e]))⟩

theorem src_re {w w' : World} {g len cap p : Nat} {a : Option Addr} {h : Int} (hgr : w.grownBy w' (some g)) (hg : w'.heap[g]? = some (.cells #[.slice a len cap, .int .i64 p, .int .u64 h] 115 (0, 0)))
    (hl : len ≤ 9223372036854775807) (hp : p ≤ len) (h0 : 0 ≤ h) (h1 : h < 18446744073709551616)
    (hc : ∀ j, j < len → ∃ b off, a = some ⟨b, off, none⟩ ∧ b < g ∧ ∀ i, i < len → ∃ x : Int, w.cell? ⟨b, off + i, none⟩ = some (.int .u8 x) ∧ 0 ≤ x ∧ x < 256) : Src w' g (.pointer (some ⟨g, 0, none⟩)) := by
  refine ⟨a, len, cap, p, h, rfl, hg, hl, hp, h0, h1, fun j hj => ?_⟩
  obtain ⟨b, off, ha, hb, hcell⟩ := hc j hj
  refine ⟨b, off, ha, hb, fun i hi => ?_⟩
  obtain ⟨x, hx, hx0, hx1⟩ := hcell i hi
  exact ⟨x, hgr.cell hx (by simp; omega), hx0, hx1⟩

set_option maxHeartbeats 800000 in
theorem next_any (w : World) (g : Nat) (v : Value) (n : Int) (h : Src w g v) (hn : n ≤ 9223372036854775807) :
    Calls Try.prog 86 #[v, .int .i64 n] w (fun e w' => ∃ r : Int, e = .returned (.int .i64 r) ∧ 0 ≤ r ∧ (r < n ∨ r = 0) ∧ Src w' g v ∧ w.grownBy w' (some g)) := by
  have H := h
  obtain ⟨a, len, cap, p, x, rfl, hg, hl, hp, hx0, hx1, hc⟩ := h
  by_cases h1 : n < 1
  · clear hg hc
    have H := Lib.hid H
    go_enter Try.func86, Try.ntmps86
    go_wp2
    go_ret
    exact ⟨0, rfl, by omega, .inr rfl, H.out, grown_refl _ _⟩
  · have HC := Lib.hid hc; clear hc H
    have c2 : w.cell? ⟨g, 2, none⟩ = some (.int .u64 x) := by rw [cell_of_row w g 2 _ _ (0, 0) hg]; rfl
    have fr := frozen_of_row w g 2 _ _ hg
    obtain ⟨y, hy, hy1⟩ := u64_nat (IntKind.u64.wrap (x * 6364136223846793005) + 1442695040888963407)
    obtain ⟨m, hm, hm1⟩ := mask24 y hy1
    have hm2 := Go.IntWalk.wrap64_in (m : Int) ⟨by omega, by omega⟩
    have HG := Lib.hid hg; clear hg
    go_enter Try.func86, Try.ntmps86
    go_wp2
    have hg1 : (w.setCell ⟨g, 2, none⟩ (.int .u64 (y : Int))).heap[g]? = some (.cells #[.slice a len cap, .int .i64 p, .int .u64 y] 115 (0, 0)) := heap_setCell_same w g 2 _ _ _ HG.out
    have hgr := src_put (i := 2) (u := .int .u64 (y : Int)) HG.out
    generalize w.setCell ⟨g, 2, none⟩ (.int .u64 (y : Int)) = w1 at hg1 hgr ⊢
    clear fr c2 hy hm hm2
    have d0 : w1.cell? ⟨g, 0, none⟩ = some (.slice a len cap) := by rw [cell_of_row w1 g 0 _ _ (0, 0) hg1]; rfl
    have d1 : w1.cell? ⟨g, 1, none⟩ = some (.int .i64 p) := by rw [cell_of_row w1 g 1 _ _ (0, 0) hg1]; rfl
    have fr := frozen_of_row w1 g 1 _ _ hg1
    have HG1 := Lib.hid hg1; have HGR := Lib.hid hgr; clear hg1 hgr
    by_cases hlt : p < len
    · obtain ⟨b, off, rfl, hb, hcell⟩ := HC.out p hlt
      obtain ⟨z, hz, hz0, hz1⟩ := hcell p hlt
      have d2 : w1.cell? ⟨b, off + p, none⟩ = some (.int .u8 z) := HGR.out.cell hz (by simp; omega)
      have hz2 := Go.IntWalk.wrap64_in z ⟨by omega, by omega⟩
      have hz3 := Go.IntWalk.wrap64_in (m + z) ⟨by omega, by omega⟩
      clear hcell
      go_quiet (fail)
      go_wp2
      go_quiet (fail)
      go_wp2
      go_ret
      have hgr := fun q => grown_trans (grown_quiet HGR.out q) (src_put (w := w1.drewN q) (i := 1) (u := .int .i64 ((p : Int) + 1)) HG1.out)
      exact ⟨_, rfl, Int.emod_nonneg _ (by omega), .inl (Int.emod_lt_of_pos _ (by omega)), src_re (hgr _) (p := p + 1) (heap_setCell_same _ g 1 _ _ _ HG1.out) hl hlt (Int.natCast_nonneg y) (by omega) HC.out, hgr _⟩
    · go_quiet (fail)
      go_wp2
      go_ret
      have hgr := fun q => grown_quiet HGR.out q
      exact ⟨_, rfl, Int.emod_nonneg _ (by omega), .inl (Int.emod_lt_of_pos _ (by omega)), src_re (hgr _) HG1.out hl hp (Int.natCast_nonneg y) (by omega) HC.out, hgr _⟩

theorem Src.keep {w w' : World} {g : Nat} {v : Value} (h : Src w g v) (hb : Below (g + 1) w w') : Src w' g v := by
  obtain ⟨a, len, cap, p, x, hv, hg, hl, hp, h0, h1, hc⟩ := h
  have hs := (Array.getElem?_eq_some_iff.1 hg).1
  refine ⟨a, len, cap, p, x, hv, by rw [hb.block g (by omega)]; exact hg, hl, hp, h0, h1, fun j hj => ?_⟩
  obtain ⟨b, off, ha, hbs, hcell⟩ := hc j hj
  refine ⟨b, off, ha, hbs, fun i hi => ?_⟩
  obtain ⟨z, hz, hz0, hz1⟩ := hcell i hi
  exact ⟨z, (hb.cell (p := ⟨b, off + i, none⟩) (by simp; omega)).trans hz, hz0, hz1⟩

theorem list_at {xs : List Int} {k : Nat} (hk : k < xs.length) : xs.getD k 0 ∈ xs := by
  rw [List.getD_eq_getElem?_getD, List.getElem?_eq_getElem hk]; exact List.getElem_mem hk

set_option maxHeartbeats 800000 in
set_option maxRecDepth 100000 in
theorem pick_any (w : World) (g : Nat) (v u : Value) (xs : List Int) (h : Src w g v) (hu : Rd w u xs) (hne : 0 < xs.length) (hq : u.ownBlock ≠ some g) :
    Calls Try.prog 109 #[v, u] w (fun e w' => ∃ r : Int, e = .returned (.int .i64 r) ∧ r ∈ xs ∧ Src w' g v ∧ w.grownBy w' (some g)) := by
  obtain ⟨a, cap, rfl, hl, hc⟩ := hu
  obtain ⟨b, off, rfl, hb, hcell⟩ := hc 0 hne
  have hne2 : b ≠ g := fun e => hq (by rw [e]; rfl)
  have HC := Lib.hid hcell; clear hcell hc hq
  go_enter Try.func109, Try.ntmps109
  go_wp2_with fail
  refine (next_any _ g _ _ h (by omega)).mono ?_; rintro e w1 ⟨r, rfl, hr0, hr1, hs, hgr⟩
  obtain ⟨k, rfl⟩ := Int.eq_ofNat_of_zero_le hr0
  have hk : k < xs.length := by omega
  have c1 : w1.cell? ⟨b, off + k, none⟩ = some (.int .i64 (xs.getD k 0)) := hgr.cell (HC.out k hk) (by simp; omega)
  clear hr1
  go_wp2
  go_ret
  exact ⟨_, rfl, by simp, hs, hgr⟩

def CountP (n : Int) : Prop := -1 ≤ n ∧ n ≤ 9223372036854775807

theorem Src.lt {w : World} {g : Nat} {v : Value} (h : Src w g v) : g < w.heap.size := by
  obtain ⟨a, len, cap, p, x, hv, hg, _⟩ := h
  exact (Array.getElem?_eq_some_iff.1 hg).1

theorem Src.alloc {w : World} {g : Nat} {v : Value} (h : Src w g v) (o : Obj) : Src (w.alloc o) g v := h.keep ((Below.refl _ _).alloc h.lt o)

theorem grown_mix {a b c : World} {row : Option Nat} {u : Value} {xs : List Int} (h : a.grownBy b row) (hs : Sl b a.heap.size u xs) (k : b.grownBy c u.ownBlock) : a.grownBy c row :=
  ⟨k.os.trans h.os, k.tape.trans h.tape, k.output.trans h.output, Nat.le_trans h.size k.size, fun i hi hr => (k.block i (Nat.lt_of_lt_of_le hi h.size) (fun e => by have := (hs.1.lt i e.symm).1; omega)).trans (h.block i hi hr)⟩

theorem not_own {w : World} {base g : Nat} {u : Value} {xs : List Int} (hs : Sl w base u xs) (hb : g < base) : u.ownBlock ≠ some g := fun e => by have := (hs.1.lt g e).1; omega

theorem lit4 (w : World) (x y z t : Int) : Sl (w.alloc (.cells #[.int .i64 x, .int .i64 y, .int .i64 z, .int .i64 t] 2)) w.heap.size (.slice (some ⟨w.heap.size, 0, none⟩) 4 4) [x, y, z, t] :=
  ⟨World.ownsRow_lit w #[.int .i64 x, .int .i64 y, .int .i64 z, .int .i64 t] 4 (Nat.le_refl _) (by decide) rfl, by simp⟩
theorem lit3 (w : World) (x y z : Int) : Sl (w.alloc (.cells #[.int .i64 x, .int .i64 y, .int .i64 z] 2)) w.heap.size (.slice (some ⟨w.heap.size, 0, none⟩) 3 3) [x, y, z] :=
  ⟨World.ownsRow_lit w #[.int .i64 x, .int .i64 y, .int .i64 z] 3 (Nat.le_refl _) (by decide) rfl, by simp⟩

set_option maxHeartbeats 800000 in
set_option maxRecDepth 100000 in
theorem maps_any (w : World) (g : Nat) (v : Value) (m n : Int) (h : Src w g v) (hn : n ≤ 9223372036854775807) :
    Calls Try.prog 102 #[v, .int .i64 m, .int .i64 n] w (fun e w' => ∃ (xs : List Int) (y : Value), e = .returned y ∧ Sl w' w.heap.size y xs ∧ xs.length ≤ 301 ∧ Src w' g v ∧ w.grownBy w' (some g)) := by
  have hgw := h.lt
  go_enter Try.func102, Try.ntmps102
  go_wp2
  go_loopw [7, 8] (fun u i wr => ∃ (k : Nat) (xs : List Int), k ≤ 300 ∧ i = .int .i64 k ∧ xs.length = k ∧ Sl wr w.heap.size u xs ∧ Src wr g v ∧ w.grownBy wr (some g)) (fun _ i _ => 301 - (intOf i).toNat)
  case atStart => exact ⟨0, [], by omega, rfl, rfl, sl_empty w, h.alloc _, World.grownBy_alloc _ _ _⟩
  case round =>
    obtain ⟨k, xs, hk, rfl, hlen, hs, hsrc, hgr⟩ := hrel
    by_cases h1 : (k : Int) < m
    · by_cases h2 : 0 < n
      · by_cases h3 : k < 300
        · go_wp2_with fail
          all_goals
            refine (next_any _ g _ _ hsrc (by omega)).mono ?_; rintro e w1 ⟨r, rfl, hr0, hr1, hs1, hgr1⟩
            have hx1 := sl_kept hs hgr1 (.inr (not_own hs hgw))
            have hga := grown_trans hgr hgr1
            go_wp2_with (at_builtin; refine wp_app64 rfl _ _ _ rfl Try.underlying22 r hx1 rfl rfl (by omega) hga.size ?_; intro v1 w3 hx3 hg3)
            go_roundw
            case rel => exact ⟨k + 1, _, by omega, by go_num, by simp [hlen], hx3, hs1.keep ((Below.refl (g + 1) _).grown hg3 hs1.lt fun j hj => by have := (hx1.1.lt j hj).1; omega), grown_mix hga hx1 hg3⟩
            case measure => simp [intOf]; omega
        · go_wp2_with fail
          refine (next_any _ g _ _ hsrc (by omega)).mono ?_; rintro e w1 ⟨r, rfl, hr0, hr1, hs1, hgr1⟩
          have hx1 := sl_kept hs hgr1 (.inr (not_own hs hgw))
          have hga := grown_trans hgr hgr1
          by_cases hr : r = 0
          · subst hr
            go_wp2_with fail
            have hL := lit3 w1 0 n (-1)
            refine (pick_any _ g _ _ _ (hs1.alloc _) hL.rd (by simp) (not_own hL hs1.lt)).mono ?_; rintro e w2 ⟨r2, rfl, hr2, hs2, hgr2⟩
            have hx2 := sl_kept (sl_alloc hx1 _) hgr2 (.inr (not_own hx1 hgw))
            have hgb := grown_trans hga (grown_alloc hgr2)
            go_wp2_with (at_builtin; refine wp_app64 rfl _ _ _ rfl Try.underlying22 r2 hx2 rfl rfl (by omega) hgb.size ?_; intro v1 w3 hx3 hg3)
            go_ret
            exact ⟨_, _, rfl, hx3, by simp; omega, hs2.keep ((Below.refl (g + 1) _).grown hg3 hs2.lt fun j hj => by have := (hx2.1.lt j hj).1; omega), grown_mix hgb hx2 hg3⟩
          · have hr2 : (r == 0) = false := by simpa using hr
            go_wp2
            go_ret
            exact ⟨_, _, rfl, hx1, by omega, hs1, hga⟩
      · go_wp2_with fail
        refine (next_any _ g _ _ hsrc (by omega)).mono ?_; rintro e w1 ⟨r, rfl, hr0, hr1, hs1, hgr1⟩
        have hx1 := sl_kept hs hgr1 (.inr (not_own hs hgw))
        have hga := grown_trans hgr hgr1
        by_cases hr : r = 0
        · subst hr
          go_wp2_with fail
          have hL := lit3 w1 0 n (-1)
          refine (pick_any _ g _ _ _ (hs1.alloc _) hL.rd (by simp) (not_own hL hs1.lt)).mono ?_; rintro e w2 ⟨r2, rfl, hr2, hs2, hgr2⟩
          have hx2 := sl_kept (sl_alloc hx1 _) hgr2 (.inr (not_own hx1 hgw))
          have hgb := grown_trans hga (grown_alloc hgr2)
          go_wp2_with (at_builtin; refine wp_app64 rfl _ _ _ rfl Try.underlying22 r2 hx2 rfl rfl (by omega) hgb.size ?_; intro v1 w3 hx3 hg3)
          go_ret
          exact ⟨_, _, rfl, hx3, by simp; omega, hs2.keep ((Below.refl (g + 1) _).grown hg3 hs2.lt fun j hj => by have := (hx2.1.lt j hj).1; omega), grown_mix hgb hx2 hg3⟩
        · have hr2 : (r == 0) = false := by simpa using hr
          go_wp2
          go_ret
          exact ⟨_, _, rfl, hx1, by omega, hs1, hga⟩
    · go_wp2_with fail
      refine (next_any _ g _ _ hsrc (by omega)).mono ?_; rintro e w1 ⟨r, rfl, hr0, hr1, hs1, hgr1⟩
      have hx1 := sl_kept hs hgr1 (.inr (not_own hs hgw))
      have hga := grown_trans hgr hgr1
      by_cases hr : r = 0
      · subst hr
        go_wp2_with fail
        have hL := lit3 w1 0 n (-1)
        refine (pick_any _ g _ _ _ (hs1.alloc _) hL.rd (by simp) (not_own hL hs1.lt)).mono ?_; rintro e w2 ⟨r2, rfl, hr2, hs2, hgr2⟩
        have hx2 := sl_kept (sl_alloc hx1 _) hgr2 (.inr (not_own hx1 hgw))
        have hgb := grown_trans hga (grown_alloc hgr2)
        go_wp2_with (at_builtin; refine wp_app64 rfl _ _ _ rfl Try.underlying22 r2 hx2 rfl rfl (by omega) hgb.size ?_; intro v1 w3 hx3 hg3)
        go_ret
        exact ⟨_, _, rfl, hx3, by simp; omega, hs2.keep ((Below.refl (g + 1) _).grown hg3 hs2.lt fun j hj => by have := (hx2.1.lt j hj).1; omega), grown_mix hgb hx2 hg3⟩
      · have hr2 : (r == 0) = false := by simpa using hr
        go_wp2
        go_ret
        exact ⟨_, _, rfl, hx1, by omega, hs1, hga⟩

/-- Bytes that came in. -/
def InB (w : World) (v : Value) : Prop :=
  ∃ (a : Option Addr) (len cap : Nat), v = .slice a len cap ∧ len ≤ 9223372036854775807 ∧
    ∀ j, j < len → ∃ b off, a = some ⟨b, off, none⟩ ∧ b < w.heap.size ∧ ∀ i, i < len → ∃ x : Int, w.cell? ⟨b, off + i, none⟩ = some (.int .u8 x) ∧ 0 ≤ x ∧ x < 256

theorem inb_below {w w' : World} {v : Value} (hb : Below w.heap.size w w') (h : InB w v) : InB w' v := by
  obtain ⟨a, len, cap, hv, hl, hc⟩ := h
  refine ⟨a, len, cap, hv, hl, fun j hj => ?_⟩
  obtain ⟨b, off, ha, hbs, hcell⟩ := hc j hj
  refine ⟨b, off, ha, Nat.lt_of_lt_of_le hbs hb.size, fun i hi => ?_⟩
  obtain ⟨x, hx, hx0, hx1⟩ := hcell i hi
  exact ⟨x, (hb.cell (p := ⟨b, off + i, none⟩) hbs).trans hx, hx0, hx1⟩

theorem code_up {w w' : World} {a : Option Addr} {len : Nat} (hb : Below w.heap.size w w')
    (hc : ∀ j, j < len → ∃ b off, a = some ⟨b, off, none⟩ ∧ b < w.heap.size ∧ ∀ i, i < len → ∃ x : Int, w.cell? ⟨b, off + i, none⟩ = some (.int .u8 x) ∧ 0 ≤ x ∧ x < 256) :
    ∀ j, j < len → ∃ b off, a = some ⟨b, off, none⟩ ∧ b < w.heap.size ∧ ∀ i, i < len → ∃ x : Int, w'.cell? ⟨b, off + i, none⟩ = some (.int .u8 x) ∧ 0 ≤ x ∧ x < 256 := fun j hj => by
  obtain ⟨b, off, ha, hbs, hcell⟩ := hc j hj
  refine ⟨b, off, ha, hbs, fun i hi => ?_⟩
  obtain ⟨x, hx, hx0, hx1⟩ := hcell i hi
  exact ⟨x, (hb.cell (p := ⟨b, off + i, none⟩) hbs).trans hx, hx0, hx1⟩

set_option maxHeartbeats 800000 in
set_option maxRecDepth 100000 in
theorem from_any (w : World) (v : Value) (h : InB w v) :
    Calls Try.prog 85 #[v] w (fun e w' => ∃ (g : Nat) (y : Value), e = .returned y ∧ Src w' g y ∧ w.heap.size ≤ g ∧ Below w.heap.size w w') := by
  obtain ⟨a, len, cap, rfl, hl, hc⟩ := h
  have HC := Lib.hid hc; clear hc
  go_enter Try.func85, Try.ntmps85
  go_wp2
  go_loopw [4] (fun i wr => ∃ (k : Nat) (x : Int), i = .int .i64 k ∧ k ≤ len ∧ k ≤ 4096 ∧ wr.heap[w.heap.size]? = some (.cells #[.slice a len cap, .int .i64 0, .int .u64 x] 115 (0, 0)) ∧ 0 ≤ x ∧ x < 18446744073709551616 ∧ Below w.heap.size w wr) (fun i _ => 4097 - (intOf i).toNat)
  case atStart => exact ⟨0, 7019 + (len : Int), rfl, Nat.zero_le _, by omega, Array.getElem?_push_size, by omega, by omega, (Below.refl _ _).alloc (Nat.le_refl _) _⟩
  case round =>
    obtain ⟨k, x, rfl, hk, hk2, hg, hx0, hx1, hbel⟩ := hrel
    by_cases h1 : k < len
    · by_cases h2 : k < 4096
      · obtain ⟨b, off, rfl, hb, hcell⟩ := HC.out k h1
        obtain ⟨z, hz, hz0, hz1⟩ := hcell k h1
        have c1 : wr.cell? ⟨b, off + k, none⟩ = some (.int .u8 z) := (hbel.cell (p := ⟨b, off + k, none⟩) hb).trans hz
        have c2 : wr.cell? ⟨w.heap.size, 2, none⟩ = some (.int .u64 x) := by rw [cell_of_row wr _ 2 _ _ (0, 0) hg]; rfl
        have fr := frozen_of_row wr w.heap.size 2 _ _ hg
        obtain ⟨y, hy, hy1⟩ := u64_nat (IntKind.u64.wrap (IntKind.u64.wrap (x * 1099511628211) + z) + 7)
        have HG := Lib.hid hg
        clear hcell hz hg
        go_wp2
        go_still_tail 13, (by kernel_rfl)
        go_wp2
        go_roundw
        case rel => exact ⟨k + 1, (y : Int), by go_num, h1, h2, heap_setCell_same wr w.heap.size 2 _ _ _ HG.out, Int.natCast_nonneg y, by omega, (hbel.setCell (Nat.le_refl _) _).drew⟩
        case measure => simp [intOf]; omega
      · have HG := Lib.hid hg; clear hg
        go_wp2
        go_ret
        exact ⟨w.heap.size, _, rfl, ⟨a, len, cap, 0, x, rfl, HG.out, hl, Nat.zero_le _, hx0, hx1, code_up hbel HC.out⟩, Nat.le_refl _, hbel⟩
    · have HG := Lib.hid hg; clear hg
      go_wp2
      go_ret
      exact ⟨w.heap.size, _, rfl, ⟨a, len, cap, 0, x, rfl, HG.out, hl, Nat.zero_le _, hx0, hx1, code_up hbel HC.out⟩, Nat.le_refl _, hbel⟩

/-- A grown world, seen from before the source was made. -/
theorem below_src {w a b : World} {g : Nat} (h : Below w.heap.size w a) (hg : w.heap.size ≤ g) (k : a.grownBy b (some g)) : Below w.heap.size w b :=
  h.grown k h.size fun j hj => by have : g = j := by simpa using hj
                                  omega

end Go.Proofs.Ytgkfampgofjkfaa
