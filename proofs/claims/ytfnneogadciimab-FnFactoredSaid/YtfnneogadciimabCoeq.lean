
/- CoequalizerOf: the program and its model. -/
import Derived.Deep.RegionHeld3
import Derived.Deep.AppendLies
import Derived.StillTailTactics
import Derived.Test.YtfnneogadciimabJoin
import Derived.Test.YtfnneogadciimabForest
import Derived.Test.YtfnneogadciimabMap
set_option linter.unusedSimpArgs false
set_option linter.unusedVariables false
set_option linter.unusedSectionVars false
namespace Go.Proofs.Ytfnneogadciimab
open Go.RowKit

theorem sl_lit2 (wr : World) (x y : Int) : Sl (wr.alloc (.cells #[.int .i64 x, .int .i64 y] 2)) wr.heap.size (.slice (some ⟨wr.heap.size, 0, none⟩) 2 2) [x, y] :=
  ⟨World.ownsRow_lit wr #[.int .i64 x, .int .i64 y] 2 (Nat.le_refl _) (by decide) rfl, by simp⟩

theorem news2 (wr : World) (o : Obj) (z : Value) (t : TypeId) : ∀ j u, [z][j]? = some u → ((wr.alloc o).alloc (.cells #[z] t)).drew.cell? ((⟨wr.heap.size + 1, 0, none⟩ : Addr).add j) = some u := by
  have h := cell_one_new (wr.alloc o) z t
  simp only [World.size_alloc] at h
  exact h

def prs (f g : List Int) (k : Nat) : List (List Int) := (List.range k).map fun (j : Nat) => [f.getD j 0, g.getD j 0]
theorem prs_len (f g : List Int) (k : Nat) : (prs f g k).length = k := by simp [prs]
theorem prs_snoc (f g : List Int) (k : Nat) : prs f g (k + 1) = prs f g k ++ [[f.getD k 0, g.getD k 0]] := by simp [prs, List.range_succ]

theorem prs_pairs {f g : List Int} {n : Int} (hf : AllP n f) (hg : AllP n g) (hl : f.length = g.length) : ∀ r ∈ prs f g f.length, PairP n.toNat r := fun r hr => by
  simp only [prs, List.mem_map, List.mem_range] at hr
  obtain ⟨j, hj, rfl⟩ := hr
  refine ⟨rfl, fun x hx => ?_⟩
  have h1 := hf _ (mem_getD hj)
  have h2 := hg _ (mem_getD (xs := g) (k := j) (by omega))
  simp only [List.mem_cons, List.not_mem_nil, or_false] at hx
  rcases hx with rfl | rfl <;> omega

def fCoequalizerOf (n : Int) (f g : List Int) : List Int × Int :=
  if codeTwo n f g = 0 then (clsOf (implL n.toNat (prs f g f.length)), 0) else ([], codeTwo n f g)

theorem codeTwo_maps {n : Int} {f g : List Int} (h : codeTwo n f g = 0) : MapP n f ∧ MapP n g ∧ f.length = g.length := by
  unfold codeTwo at h
  split at h
  · rename_i h0
    split at h
    · rename_i hh
      refine ⟨?_, hh.1, hh.2⟩
      unfold codeM at h0
      split at h0
      · split at h0
        · assumption
        · cases h0
      · cases h0
    · cases h
  · rename_i hh; exact absurd h hh

set_option maxHeartbeats 1600000 in
set_option maxRecDepth 100000 in
theorem spec_CoequalizerOf (w : World) (n : Int) (v : Value) (f : List Int) (u : Value) (g : List Int) (hf : Rd w v f) (hg : Rd w u g) :
    Calls Try.prog 58 #[.int .i64 n, v, u] w (RetLI w (fCoequalizerOf n f g).1 (fCoequalizerOf n f g).2) := by
  obtain ⟨c, hc⟩ : ∃ c, codeTwo n f g = c := ⟨_, rfl⟩
  unfold fCoequalizerOf
  rw [hc]
  by_cases h0 : c = 0
  · subst h0
    rw [if_pos rfl]
    obtain ⟨hmf, hmg, hlfg⟩ := codeTwo_maps hc
    have hpp := prs_pairs hmf.2.2 hmg.2.2 hlfg
    have hsz := hmf.1
    obtain ⟨m, hm⟩ := Int.eq_ofNat_of_zero_le hsz.1
    subst hm
    rw [Int.toNat_natCast] at hpp ⊢
    have hm2 : m ≤ 256 := by have := hsz.2; omega
    rw [← join_cls hpp]
    have hlf := hmf.2.1
    have HPP := Lib.hid hpp; clear hpp hsz hmf hmg
    have hl := Nat.le_of_eq hlfg
    have HC := Lib.hid hc; clear hc hlfg
    have Rf := hf
    have Rg := hg
    obtain ⟨a1, cap1, rfl, l1, k1⟩ := hf
    obtain ⟨a2, cap2, rfl, l2, k2⟩ := hg
    have K1 := Lib.hid k1; have K2 := Lib.hid k2; clear k1 k2
    go_enter Try.func58, Try.ntmps58
    go_wp2_with fail
    refine (specTwo_any _ _ _ _ _ _ 0 Rf Rg HC.out).mono ?_; rintro e w1 ⟨rfl, hb1⟩
    go_wp2
    have hbe : Below w.heap.size w (w1.alloc (.cells #[] 22)) := hb1.alloc hb1.size _
    have HE := Lib.hid (sl2_mono (sl2_empty w1) hb1.size)
    go_loopw [9, 10] (fun x i wr => ∃ k : Nat, k ≤ f.length ∧ i = .int .i64 k ∧ Sl2 wr w.heap.size x (prs f g k) ∧ Below w.heap.size w wr) (fun _ i _ => f.length - (intOf i).toNat)
    case atStart => exact ⟨0, Nat.zero_le _, rfl, by simpa [prs] using HE.out, hbe⟩
    case round =>
      obtain ⟨k, hk, rfl, hs2, hbel⟩ := hrel
      by_cases hlt : k < f.length
      · have hlt2 : k < g.length := by omega
        obtain ⟨b1, o1, rfl, hb1, cell1⟩ := K1.out k hlt
        obtain ⟨b2, o2, rfl, hb2, cell2⟩ := K2.out k hlt2
        have c1 : wr.cell? ⟨b1, o1 + k, none⟩ = some (.int .i64 (f.getD k 0)) := (hbel.cell (p := ⟨b1, o1 + k, none⟩) hb1).trans (cell1 k hlt)
        have c2 : wr.cell? ⟨b2, o2 + k, none⟩ = some (.int .i64 (g.getD k 0)) := (hbel.cell (p := ⟨b2, o2 + k, none⟩) hb2).trans (cell2 k hlt2)
        have hsn := prs_snoc f g k
        have hln := Nat.le_of_eq (prs_len f g k)
        clear cell1 cell2
        obtain ⟨x, hx⟩ : ∃ x, x = f.getD k 0 := ⟨_, rfl⟩
        obtain ⟨y, hy⟩ : ∃ y, y = g.getD k 0 := ⟨_, rfl⟩
        rw [← hx] at c1 hsn
        rw [← hy] at c2 hsn
        have HSN := Lib.hid hsn; clear hsn hx hy
        obtain ⟨us, hul, hl2, hown, hrows, hpair⟩ := hs2
        obtain ⟨i0, hi0, hz0, hz1, hz2⟩ := info_parts infoS
        have ag1 : u9.ownBlock ≠ some b1 := fun h => by have := (hown.lt _ h).1; omega
        have ag2 : u9.ownBlock ≠ some b2 := fun h => by have := (hown.lt _ h).1; omega
        have lg1 := Nat.lt_of_lt_of_le hb1 hbel.size
        have lg2 := Nat.lt_of_lt_of_le hb2 hbel.size
        have hbs := hbel.size
        have hi0' : (0 : Int) ≤ (k : Int) := Int.natCast_nonneg _
        have hi1 : (k : Int) < (f.length : Int) := by omega
        have hi2 : (k : Int) < (g.length : Int) := by omega
        have hn1 : (prs f g k).length + 1 ≤ maxLen := by unfold maxLen; omega
        have hn2 : ((prs f g k).length + 1) * 24 ≤ 140737488355328 := by omega
        have hn3 : (prs f g k).length + 1 ≤ 5000000000000 := by omega
        have HROWS := Lib.hid hrows; have HPAIR := Lib.hid hpair; have HUL := Lib.hid hul; clear hrows hpair hul
        have hA : Below wr.heap.size wr ((wr.alloc (.cells #[.int .i64 x, .int .i64 y] 2)).alloc (.cells #[.slice (some ⟨wr.heap.size, 0, none⟩) 2 2] 22)) := ((Below.refl _ _).alloc (Nat.le_refl _) _).alloc (by simp) _
        have HA := Lib.hid hA; clear hA
        go_wp2
        go_region_held3 (fun w' => w'.cell? ⟨b1, o1 + k, none⟩ = some (.int .i64 x) ∧ w'.cell? ⟨b2, o2 + k, none⟩ = some (.int .i64 y))
          (first
            | go_keep
            | (go_split_ands
               refine ⟨?_, ?_⟩
               · (rw [hgrow.cell_far _ (by simp; omega) (Ne.symm ag1)]; assumption)
               · (rw [hgrow.cell_far _ (by simp; omega) (Ne.symm ag2)]; assumption)))
          ((refine step_append_lies _ (by rfl) _ _ _ (by rfl) w.heap.size 22 i0 _ 1 24 Try.underlying23 hi0 hz0 hz1 hz2 rfl (by omega) u9 (prs f g k).length _ (by rfl) (((hown.alloc _).alloc _).drew)
              ⟨wr.heap.size + 1, 0, none⟩ 1 1 [.slice (some ⟨wr.heap.size, 0, none⟩) 2 2] (by rfl) (by rfl) (news2 wr _ _ _) (by simp [Value.oneCell'])
              (by omega) hn1 hn2 (by simp; omega) (wr.heap.size + 2) (by simp) ?_; intro gg cap w3 hown1 hgrow hat hlt))
        have hs3 : Sl2 w3 w.heap.size (.slice (some ⟨gg, 0, none⟩) ((prs f g k).length + 1) cap) (prs f g k ++ [[x, y]]) :=
          sl2_snoc HUL.out hown HROWS.out HPAIR.out HA.out (sl_alloc (sl_lit2 wr x y) _) hbs hn3 hown1 ⟨hgrow.os, hgrow.tape, hgrow.output, hgrow.size, hgrow.block⟩ (by rcases hat with h | h; exact .inl h; right; simp; omega)
        have hb3 : Below w.heap.size w w3 := (hbel.trans (HA.out.mono hbs)).grown (row := u9.ownBlock) ⟨hgrow.os, hgrow.tape, hgrow.output, hgrow.size, hgrow.block⟩ (by simp; omega) (fun q hq => (hown.lt q hq).1)
        clear hown1 hgrow hat hlt hi0 hz0 hz1 hz2
        go_wp2
        go_roundw
        case rel => exact ⟨k + 1, by omega, by go_num, by rw [HSN.out]; exact hs3, hb3⟩
        case measure => simp [intOf]; omega
      · obtain rfl : k = f.length := by omega
        go_wp2_with fail
        refine (specJoin_any _ m _ _ (by omega) (sl2_rd hs2) HPP.out).mono ?_; rintro e w2 ⟨y, rfl, hs3, hb2⟩
        go_wp2
        go_ret2
        exact ⟨_, rfl, hs3.mono hbel.size, hbel.trans (hb2.mono hbel.size)⟩
  · rw [if_neg h0]
    have HC := Lib.hid hc; clear hc
    have hne : (c != 0) = true := by simpa using h0
    clear h0
    go_enter Try.func58, Try.ntmps58
    go_wp2_with fail
    refine (specTwo_any _ _ _ _ _ _ c hf hg HC.out).mono ?_; rintro e w1 ⟨rfl, hb1⟩
    go_wp2
    go_ret2
    exact ⟨_, rfl, Sl.nil _ _, hb1⟩

theorem map_nat {n : Nat} {f : List Int} {k : Nat} (h : AllP n f) (hk : k < f.length) : ∃ p : Nat, f.getD k 0 = p ∧ p < n := by
  have := h _ (mem_getD hk)
  obtain ⟨p, hp⟩ := Int.eq_ofNat_of_zero_le this.1
  exact ⟨p, hp, by omega⟩

set_option maxHeartbeats 1600000 in
set_option maxRecDepth 100000 in
theorem impl_CoequalizerOf (w : World) (n : Int) (v : Value) (f : List Int) (u : Value) (g : List Int) (hf : Rd w v f) (hg : Rd w u g) :
    Calls Try.prog 56 #[.int .i64 n, v, u] w (RetLI w (fCoequalizerOf n f g).1 (fCoequalizerOf n f g).2) := by
  obtain ⟨c, hc⟩ : ∃ c, codeTwo n f g = c := ⟨_, rfl⟩
  unfold fCoequalizerOf
  rw [hc]
  by_cases h0 : c = 0
  · subst h0
    rw [if_pos rfl]
    obtain ⟨hmf, hmg, hlfg⟩ := codeTwo_maps hc
    have hsz := hmf.1
    obtain ⟨m, hm⟩ := Int.eq_ofNat_of_zero_le hsz.1
    subst hm
    rw [Int.toNat_natCast]
    have hm2 : m ≤ 256 := by have := hsz.2; omega
    have hlf := hmf.2.1
    have HMF := Lib.hid hmf.2.2; have HMG := Lib.hid hmg.2.2; clear hsz hmf hmg
    have hl := Nat.le_of_eq hlfg
    have HC := Lib.hid hc; clear hc hlfg
    have Rf := hf
    have Rg := hg
    obtain ⟨a1, cap1, rfl, l1, k1⟩ := hf
    obtain ⟨a2, cap2, rfl, l2, k2⟩ := hg
    have K1 := Lib.hid k1; have K2 := Lib.hid k2; clear k1 k2
    go_enter Try.func56, Try.ntmps56
    go_wp2_with fail
    refine (implTwo_any _ _ _ _ _ _ 0 Rf Rg HC.out).mono ?_; rintro e w1 ⟨rfl, hb1⟩
    go_wp2_with fail
    refine (newLeaders_any _ m (by omega)).mono ?_; rintro e w2 ⟨gl, rfl, hlead0, hb2⟩
    have hbe := hb1.trans (hb2.mono hb1.size)
    have HL0 : Hid (Lead w2 w.heap.size (.slice (some ⟨gl, 0, none⟩) m m) (upTo 0 m)) := by
      obtain ⟨l, h1, h2⟩ := hlead0
      exact ⟨l, h1.mono hb1.size, h2⟩
    clear hlead0
    go_wp2
    go_loopw [22] (fun i wr => ∃ k : Nat, k ≤ f.length ∧ i = .int .i64 k ∧ Lead wr w.heap.size (.slice (some ⟨gl, 0, none⟩) m m) (implL m (prs f g k)) ∧ Below w.heap.size w wr) (fun i _ => f.length - (intOf i).toNat)
    case atStart => exact ⟨0, Nat.zero_le _, rfl, by simpa [prs, implL] using HL0.out, hbe⟩
    case round =>
      obtain ⟨k, hk, rfl, hlead, hbel⟩ := hrel
      by_cases hlt : k < f.length
      · have hlt2 : k < g.length := by omega
        obtain ⟨p, hp, hpm⟩ := map_nat HMF.out hlt
        obtain ⟨q, hq, hqm⟩ := map_nat HMG.out hlt2
        obtain ⟨b1, o1, rfl, hb1', cell1⟩ := K1.out k hlt
        obtain ⟨b2, o2, rfl, hb2', cell2⟩ := K2.out k hlt2
        have c1 : wr.cell? ⟨b1, o1 + k, none⟩ = some (.int .i64 (f.getD k 0)) := (hbel.cell (p := ⟨b1, o1 + k, none⟩) hb1').trans (cell1 k hlt)
        have c2 : wr.cell? ⟨b2, o2 + k, none⟩ = some (.int .i64 (g.getD k 0)) := (hbel.cell (p := ⟨b2, o2 + k, none⟩) hb2').trans (cell2 k hlt2)
        have hstep := implL_snoc m (prs f g k) [f.getD k 0, g.getD k 0]
        rw [← prs_snoc] at hstep
        unfold implStep at hstep
        simp only [List.getD_cons_zero, List.getD_cons_succ] at hstep
        rw [hp, hq, Int.toNat_natCast, Int.toNat_natCast] at hstep
        rw [hp] at c1
        rw [hq] at c2
        have hRl := implL_len m (prs f g k)
        obtain ⟨R, hR⟩ : ∃ R, R = implL m (prs f g k) := ⟨_, rfl⟩
        rw [← hR] at hstep hlead hRl
        have HST := Lib.hid hstep; have HRL := Lib.hid hRl; clear hstep hRl cell1 cell2 hp hq hR
        have hi0' : (0 : Int) ≤ (k : Int) := Int.natCast_nonneg _
        have hi1 : (k : Int) < (f.length : Int) := by omega
        have hi2 : (k : Int) < (g.length : Int) := by omega
        go_wp2
        go_still_tail 9, (by kernel_rfl)
        change wpList _ _ _ _ _ wr.drew
        have hlead3 : Lead wr.drew w.heap.size (.slice (some ⟨gl, 0, none⟩) m m) R := hlead
        have hb3 := hbel.drew
        clear c1 c2 hlead hbel
        generalize wr.drew = w3 at hlead3 hb3 ⊢
        go_wp2_with fail
        refine (join_any _ w.heap.size _ R p q hlead3 (by rw [HRL.out]; exact hpm) (by rw [HRL.out]; exact hqm)).mono ?_
        rintro e w4 ⟨rfl, hlead4, hg4⟩
        go_wp2
        go_roundw
        case rel => exact ⟨k + 1, by omega, by go_num, by rw [HST.out]; exact hlead4, hb3.grown hg4 hb3.size fun j hj => (lead_lt hlead3 j hj).1⟩
        case measure => simp [intOf]; omega
      · obtain rfl : k = f.length := by omega
        go_wp2_with fail
        refine (classes_any _ w.heap.size _ _ hlead).mono ?_; rintro e w3 ⟨y, rfl, hs3, hb3⟩
        go_wp2
        go_ret2
        exact ⟨_, rfl, hs3.mono hbel.size, hb3 w hbel (Nat.le_refl _)⟩
  · rw [if_neg h0]
    have HC := Lib.hid hc; clear hc
    have hne : (c != 0) = true := by simpa using h0
    clear h0
    go_enter Try.func56, Try.ntmps56
    go_wp2_with fail
    refine (implTwo_any _ _ _ _ _ _ c hf hg HC.out).mono ?_; rintro e w1 ⟨rfl, hb1⟩
    go_wp2
    go_ret2
    exact ⟨_, rfl, Sl.nil _ _, hb1⟩

end Go.Proofs.Ytfnneogadciimab
