
/- PushoutOf: the program and its model. Written by wip/tools/gen_push.py out of Coeq.t. -/
import Derived.Deep.RegionHeld3
import Derived.Deep.AppendLies
import Derived.StillTailTactics
import Derived.Test.YtfnneogadciimabCoeq
set_option linter.unusedSimpArgs false
set_option linter.unusedVariables false
set_option linter.unusedSectionVars false
namespace Go.Proofs.Ytfnneogadciimab
open Go.RowKit

def shift (n : Nat) (g : List Int) : List Int := g.map fun z => (n : Int) + z
theorem shift_getD {n : Nat} {g : List Int} {k : Nat} (hk : k < g.length) : (shift n g).getD k 0 = (n : Int) + g.getD k 0 := getD_map hk
theorem shift_all {n m : Nat} {g : List Int} (h : AllP m g) : AllP ((n : Int) + m) (shift n g) := fun x hx => by
  simp only [shift, List.mem_map] at hx
  obtain ⟨z, hz, rfl⟩ := hx
  have := h z hz
  omega

def fPushoutOf (n : Int) (f : List Int) (k : Int) (g : List Int) : List Int × Int :=
  if SizeP n ∧ SizeP k then (if MapP n f ∧ MapP k g ∧ f.length = g.length then (if n + k ≤ 256 then (clsOf (implL (n + k).toNat (prs f (shift n.toNat g) f.length)), 0) else ([], 3)) else ([], 1)) else ([], 2)

set_option maxHeartbeats 1600000 in
set_option maxRecDepth 100000 in
theorem spec_PushoutOf (w : World) (n : Int) (v : Value) (f : List Int) (n2 : Int) (u : Value) (g : List Int) (hf : Rd w v f) (hg : Rd w u g) :
    Calls Try.prog 55 #[.int .i64 n, v, .int .i64 n2, u] w (RetLI w (fPushoutOf n f n2 g).1 (fPushoutOf n f n2 g).2) := by
  unfold fPushoutOf
  have Rf := hf
  have Rg := hg
  obtain ⟨a1, cap1, rfl, l1, k1⟩ := hf
  obtain ⟨a2, cap2, rfl, l2, k2⟩ := hg
  have K1 := Lib.hid k1; have K2 := Lib.hid k2; clear k1 k2
  by_cases hn : SizeP n
  · have D1 := Lib.hid (decide_eq_true hn)
    by_cases hk : SizeP n2
    · have D2 := Lib.hid (decide_eq_true hk)
      rw [if_pos ⟨hn, hk⟩]
      by_cases h1 : MapP n f
      · have E1 := Lib.hid (decide_eq_true h1)
        by_cases h2 : MapP n2 g
        · have E2 := Lib.hid (decide_eq_true h2)
          by_cases h3 : f.length = g.length
          · rw [if_pos ⟨h1, h2, h3⟩]
            have e3 : ((f.length : Int) != (g.length : Int)) = false := by simp [h3]
            have n0 := hn.1
            have n1 := hn.2
            have m0 := hk.1
            have m1 := hk.2
            by_cases h4 : n + n2 ≤ 256
            · rw [if_pos h4]
              have hfn := Lib.hid h1.2.2
              have hgn := Lib.hid h2.2.2
              have hlf := h1.2.1
              have hl := Nat.le_of_eq h3
              obtain ⟨ns, hns⟩ := Int.eq_ofNat_of_zero_le n0
              obtain ⟨n2s, hn2s⟩ := Int.eq_ofNat_of_zero_le m0
              subst hns; subst hn2s
              obtain ⟨m, hmd⟩ : ∃ m : Nat, m = ns + n2s := ⟨_, rfl⟩
              have hcast : ((ns : Int) + (n2s : Int)).toNat = m := by omega
              have hsum : (ns : Int) + (n2s : Int) = (m : Int) := by omega
              rw [hcast]
              have hm2 : m ≤ 256 := by omega
              have hpp : ∀ r ∈ prs f (shift ns g) f.length, PairP m r := by
                have hq := prs_pairs (n := (ns : Int) + (n2s : Int)) (f := f) (g := shift ns g) (fun x hx => by have := h1.2.2 x hx; omega) (shift_all h2.2.2) (by simpa [shift] using h3)
                rw [hcast] at hq
                exact hq
              rw [Int.toNat_natCast]
              rw [← join_cls hpp]
              have HPP := Lib.hid hpp; clear hpp
              clear hn hk h1 h2 h3 hcast
              have HMD := Lib.hid hmd; have HSUM := Lib.hid hsum; clear hmd hsum
              go_enter Try.func55, Try.ntmps55
              go_wp2_with fail
              refine (specSize_any _ _ true D1.out).mono ?_; rintro e w1 ⟨rfl, rfl⟩
              go_wp2_with fail
              refine (specSize_any _ _ true D2.out).mono ?_; rintro e w1 ⟨rfl, rfl⟩
              go_wp2_with fail
              refine (specIsMap_any _ _ _ _ true Rf E1.out).mono ?_; rintro e wa ⟨rfl, hba⟩
              go_wp2_with fail
              refine (specIsMap_any _ _ _ _ true (rd_below hba Rg) E2.out).mono ?_; rintro e w1 ⟨rfl, hbb⟩
              have hb1 := hba.trans (hbb.mono hba.size)
              go_wp2
              have hbe : Below w.heap.size w (w1.alloc (.cells #[] 22)) := hb1.alloc hb1.size _
              have HE := Lib.hid (sl2_mono (sl2_empty w1) hb1.size)
              go_loopw [10, 11] (fun x i wr => ∃ k : Nat, k ≤ f.length ∧ i = .int .i64 k ∧ Sl2 wr w.heap.size x (prs f (shift ns g) k) ∧ Below w.heap.size w wr) (fun _ i _ => f.length - (intOf i).toNat)
              case atStart => exact ⟨0, Nat.zero_le _, rfl, by simpa [prs] using HE.out, hbe⟩
              case round =>
                obtain ⟨k, hk, rfl, hs2, hbel⟩ := hrel
                by_cases hlt : k < f.length
                · have hlt2 : k < g.length := by omega
                  obtain ⟨b1, o1, rfl, hb1, cell1⟩ := K1.out k hlt
                  obtain ⟨b2, o2, rfl, hb2, cell2⟩ := K2.out k hlt2
                  have c1 : wr.cell? ⟨b1, o1 + k, none⟩ = some (.int .i64 (f.getD k 0)) := (hbel.cell (p := ⟨b1, o1 + k, none⟩) hb1).trans (cell1 k hlt)
                  have c2 : wr.cell? ⟨b2, o2 + k, none⟩ = some (.int .i64 (g.getD k 0)) := (hbel.cell (p := ⟨b2, o2 + k, none⟩) hb2).trans (cell2 k hlt2)
                  have hsn := prs_snoc f (shift ns g) k
                  rw [shift_getD hlt2] at hsn
                  have hyr := hgn.out _ (mem_getD hlt2)
                  have hln := Nat.le_of_eq (prs_len f (shift ns g) k)
                  clear cell1 cell2
                  obtain ⟨x, hx⟩ : ∃ x, x = f.getD k 0 := ⟨_, rfl⟩
                  obtain ⟨y, hy⟩ : ∃ y, y = g.getD k 0 := ⟨_, rfl⟩
                  rw [← hx] at c1 hsn
                  rw [← hy] at c2 hsn hyr
                  obtain ⟨hy0, hy1⟩ := hyr
                  have hwr : IntKind.i64.wrap ((ns : Int) + y) = (ns : Int) + y := IntWalk.i64_in _ (by omega)
                  have HWR := Lib.hid hwr; clear hwr
                  have HSN := Lib.hid hsn; clear hsn hx hy
                  obtain ⟨us, hul, hl2, hown, hrows, hpair⟩ := hs2
                  obtain ⟨i0, hi0, hz0, hz1, hz2⟩ := info_parts infoS
                  have ag1 : u10.ownBlock ≠ some b1 := fun h => by have := (hown.lt _ h).1; omega
                  have ag2 : u10.ownBlock ≠ some b2 := fun h => by have := (hown.lt _ h).1; omega
                  have lg1 := Nat.lt_of_lt_of_le hb1 hbel.size
                  have lg2 := Nat.lt_of_lt_of_le hb2 hbel.size
                  have hbs := hbel.size
                  have hi0' : (0 : Int) ≤ (k : Int) := Int.natCast_nonneg _
                  have hi1 : (k : Int) < (f.length : Int) := by omega
                  have hi2 : (k : Int) < (g.length : Int) := by omega
                  have hn1 : (prs f (shift ns g) k).length + 1 ≤ maxLen := by unfold maxLen; omega
                  have hn2 : ((prs f (shift ns g) k).length + 1) * 24 ≤ 140737488355328 := by omega
                  have hn3 : (prs f (shift ns g) k).length + 1 ≤ 5000000000000 := by omega
                  have HROWS := Lib.hid hrows; have HPAIR := Lib.hid hpair; have HUL := Lib.hid hul; clear hrows hpair hul
                  have hA : Below wr.heap.size wr ((wr.alloc (.cells #[.int .i64 x, .int .i64 ((ns : Int) + y)] 2)).alloc (.cells #[.slice (some ⟨wr.heap.size, 0, none⟩) 2 2] 22)) := ((Below.refl _ _).alloc (Nat.le_refl _) _).alloc (by simp) _
                  have HA := Lib.hid hA; clear hA
                  go_wp2
                  have hwr := HWR.out
                  go_region_held3 (fun w' => w'.cell? ⟨b1, o1 + k, none⟩ = some (.int .i64 x) ∧ w'.cell? ⟨b2, o2 + k, none⟩ = some (.int .i64 y))
                    (first
                      | go_keep
                      | (go_split_ands
                         refine ⟨?_, ?_⟩
                         · (rw [hgrow.cell_far _ (by simp; omega) (Ne.symm ag1)]; assumption)
                         · (rw [hgrow.cell_far _ (by simp; omega) (Ne.symm ag2)]; assumption)))
                    ((refine step_append_lies _ (by rfl) _ _ _ (by rfl) w.heap.size 22 i0 _ 1 24 Try.underlying23 hi0 hz0 hz1 hz2 rfl (by omega) u10 (prs f (shift ns g) k).length _ (by rfl) (((hown.alloc _).alloc _).drew)
                        ⟨wr.heap.size + 1, 0, none⟩ 1 1 [.slice (some ⟨wr.heap.size, 0, none⟩) 2 2] (by rfl) (by rfl) (news2 wr _ _ _) (by simp [Value.oneCell'])
                        (by omega) hn1 hn2 (by simp; omega) (wr.heap.size + 2) (by simp) ?_; intro gg cap w3 hown1 hgrow hat hlt))
                  have hs3 : Sl2 w3 w.heap.size (.slice (some ⟨gg, 0, none⟩) ((prs f (shift ns g) k).length + 1) cap) (prs f (shift ns g) k ++ [[x, (ns : Int) + y]]) :=
                    sl2_snoc HUL.out hown HROWS.out HPAIR.out HA.out (sl_alloc (sl_lit2 wr x ((ns : Int) + y)) _) hbs hn3 hown1 ⟨hgrow.os, hgrow.tape, hgrow.output, hgrow.size, hgrow.block⟩ (by rcases hat with h | h; exact .inl h; right; simp; omega)
                  have hb3 : Below w.heap.size w w3 := (hbel.trans (HA.out.mono hbs)).grown (row := u10.ownBlock) ⟨hgrow.os, hgrow.tape, hgrow.output, hgrow.size, hgrow.block⟩ (by simp; omega) (fun q hq => (hown.lt q hq).1)
                  clear hown1 hgrow hat hlt hwr hi0 hz0 hz1 hz2
                  go_wp2
                  go_roundw
                  case rel => exact ⟨k + 1, by omega, by go_num, by rw [HSN.out]; exact hs3, hb3⟩
                  case measure => simp [intOf]; omega
                · obtain rfl : k = f.length := by omega
                  go_wp2_with fail
                  rw [HSUM.out]
                  refine (specJoin_any _ m _ _ (by omega) (sl2_rd hs2) HPP.out).mono ?_; rintro e w2 ⟨y, rfl, hs3, hb2⟩
                  go_wp2
                  go_ret2
                  exact ⟨_, rfl, hs3.mono hbel.size, hbel.trans (hb2.mono hbel.size)⟩
            · rw [if_neg h4]
              have h4' : 256 < n + n2 := by omega
              clear hn hk h1 h2 h3 h4
              go_enter Try.func55, Try.ntmps55
              go_wp2_with fail
              refine (specSize_any _ _ true D1.out).mono ?_; rintro e w1 ⟨rfl, rfl⟩
              go_wp2_with fail
              refine (specSize_any _ _ true D2.out).mono ?_; rintro e w1 ⟨rfl, rfl⟩
              go_wp2_with fail
              refine (specIsMap_any _ _ _ _ true Rf E1.out).mono ?_; rintro e w1 ⟨rfl, hb1⟩
              go_wp2_with fail
              refine (specIsMap_any _ _ _ _ true (rd_below hb1 Rg) E2.out).mono ?_; rintro e w2 ⟨rfl, hb2⟩
              go_wp2
              go_ret2
              exact ⟨_, rfl, Sl.nil _ _, hb1.trans (hb2.mono hb1.size)⟩
          · rw [if_neg (fun h => h3 h.2.2)]
            have e3 : ((f.length : Int) != (g.length : Int)) = true := by rw [bne_iff_ne]; omega
            clear hn hk h1 h2 h3
            go_enter Try.func55, Try.ntmps55
            go_wp2_with fail
            refine (specSize_any _ _ true D1.out).mono ?_; rintro e w1 ⟨rfl, rfl⟩
            go_wp2_with fail
            refine (specSize_any _ _ true D2.out).mono ?_; rintro e w1 ⟨rfl, rfl⟩
            go_wp2_with fail
            refine (specIsMap_any _ _ _ _ true Rf E1.out).mono ?_; rintro e w1 ⟨rfl, hb1⟩
            go_wp2_with fail
            refine (specIsMap_any _ _ _ _ true (rd_below hb1 Rg) E2.out).mono ?_; rintro e w2 ⟨rfl, hb2⟩
            go_wp2
            go_ret2
            exact ⟨_, rfl, Sl.nil _ _, hb1.trans (hb2.mono hb1.size)⟩
        · have E2 := Lib.hid (decide_eq_false h2)
          rw [if_neg (fun h => h2 h.2.1)]
          clear hn hk h1 h2
          go_enter Try.func55, Try.ntmps55
          go_wp2_with fail
          refine (specSize_any _ _ true D1.out).mono ?_; rintro e w1 ⟨rfl, rfl⟩
          go_wp2_with fail
          refine (specSize_any _ _ true D2.out).mono ?_; rintro e w1 ⟨rfl, rfl⟩
          go_wp2_with fail
          refine (specIsMap_any _ _ _ _ true Rf E1.out).mono ?_; rintro e w1 ⟨rfl, hb1⟩
          go_wp2_with fail
          refine (specIsMap_any _ _ _ _ false (rd_below hb1 Rg) E2.out).mono ?_; rintro e w2 ⟨rfl, hb2⟩
          go_wp2
          go_ret2
          exact ⟨_, rfl, Sl.nil _ _, hb1.trans (hb2.mono hb1.size)⟩
      · have E1 := Lib.hid (decide_eq_false h1)
        rw [if_neg (fun h => h1 h.1)]
        clear hn hk h1
        go_enter Try.func55, Try.ntmps55
        go_wp2_with fail
        refine (specSize_any _ _ true D1.out).mono ?_; rintro e w1 ⟨rfl, rfl⟩
        go_wp2_with fail
        refine (specSize_any _ _ true D2.out).mono ?_; rintro e w1 ⟨rfl, rfl⟩
        go_wp2_with fail
        refine (specIsMap_any _ _ _ _ false Rf E1.out).mono ?_; rintro e w1 ⟨rfl, hb1⟩
        go_wp2
        go_ret2
        exact ⟨_, rfl, Sl.nil _ _, hb1⟩
    · have D2 := Lib.hid (decide_eq_false hk)
      rw [if_neg (fun h => hk h.2)]
      clear hn hk
      go_enter Try.func55, Try.ntmps55
      go_wp2_with fail
      refine (specSize_any _ _ true D1.out).mono ?_; rintro e w1 ⟨rfl, rfl⟩
      go_wp2_with fail
      refine (specSize_any _ _ false D2.out).mono ?_; rintro e w1 ⟨rfl, rfl⟩
      go_wp2
      go_ret2
      exact ⟨_, rfl, Sl.nil _ _, Below.refl _ _⟩
  · have D1 := Lib.hid (decide_eq_false hn)
    rw [if_neg (fun h => hn h.1)]
    clear hn
    go_enter Try.func55, Try.ntmps55
    go_wp2_with fail
    refine (specSize_any _ _ false D1.out).mono ?_; rintro e w1 ⟨rfl, rfl⟩
    go_wp2
    go_ret2
    exact ⟨_, rfl, Sl.nil _ _, Below.refl _ _⟩

set_option maxHeartbeats 1600000 in
set_option maxRecDepth 100000 in
theorem impl_PushoutOf (w : World) (n : Int) (v : Value) (f : List Int) (n2 : Int) (u : Value) (g : List Int) (hf : Rd w v f) (hg : Rd w u g) :
    Calls Try.prog 54 #[.int .i64 n, v, .int .i64 n2, u] w (RetLI w (fPushoutOf n f n2 g).1 (fPushoutOf n f n2 g).2) := by
  unfold fPushoutOf
  have Rf := hf
  have Rg := hg
  obtain ⟨a1, cap1, rfl, l1, k1⟩ := hf
  obtain ⟨a2, cap2, rfl, l2, k2⟩ := hg
  have K1 := Lib.hid k1; have K2 := Lib.hid k2; clear k1 k2
  by_cases hn : SizeP n
  · have D1 := Lib.hid (decide_eq_true hn)
    by_cases hk : SizeP n2
    · have D2 := Lib.hid (decide_eq_true hk)
      rw [if_pos ⟨hn, hk⟩]
      by_cases h1 : MapP n f
      · have E1 := Lib.hid (decide_eq_true h1)
        by_cases h2 : MapP n2 g
        · have E2 := Lib.hid (decide_eq_true h2)
          by_cases h3 : f.length = g.length
          · rw [if_pos ⟨h1, h2, h3⟩]
            have e3 : ((f.length : Int) != (g.length : Int)) = false := by simp [h3]
            have n0 := hn.1
            have n1 := hn.2
            have m0 := hk.1
            have m1 := hk.2
            by_cases h4 : n + n2 ≤ 256
            · rw [if_pos h4]
              have hfn := Lib.hid h1.2.2
              have hgn := Lib.hid h2.2.2
              have hlf := h1.2.1
              have hl := Nat.le_of_eq h3
              obtain ⟨ns, hns⟩ := Int.eq_ofNat_of_zero_le n0
              obtain ⟨n2s, hn2s⟩ := Int.eq_ofNat_of_zero_le m0
              subst hns; subst hn2s
              obtain ⟨m, hmd⟩ : ∃ m : Nat, m = ns + n2s := ⟨_, rfl⟩
              have hcast : ((ns : Int) + (n2s : Int)).toNat = m := by omega
              have hsum : (ns : Int) + (n2s : Int) = (m : Int) := by omega
              rw [hcast]
              have hm2 : m ≤ 256 := by omega
              rw [Int.toNat_natCast]
              clear hn hk h1 h2 h3 hcast
              have HMD := Lib.hid hmd; have HSUM := Lib.hid hsum; clear hmd hsum
              go_enter Try.func54, Try.ntmps54
              go_wp2_with fail
              refine (implSize_any _ _ true D1.out).mono ?_; rintro e w1 ⟨rfl, rfl⟩
              go_wp2_with fail
              refine (implSize_any _ _ true D2.out).mono ?_; rintro e w1 ⟨rfl, rfl⟩
              go_wp2_with fail
              refine (implIsMap_any _ _ _ _ true Rf E1.out).mono ?_; rintro e wa ⟨rfl, hba⟩
              go_wp2_with fail
              refine (implIsMap_any _ _ _ _ true (rd_below hba Rg) E2.out).mono ?_; rintro e w1 ⟨rfl, hbb⟩
              have hb1 := hba.trans (hbb.mono hba.size)
              go_wp2_with fail
              rw [HSUM.out]
              refine (newLeaders_any _ m (by omega)).mono ?_; rintro e w2 ⟨gl, rfl, hlead0, hb2⟩
              have hbe := hb1.trans (hb2.mono hb1.size)
              have HL0 : Hid (Lead w2 w.heap.size (.slice (some ⟨gl, 0, none⟩) m m) (upTo 0 m)) := by
                obtain ⟨l, h1, h2⟩ := hlead0
                exact ⟨l, h1.mono hb1.size, h2⟩
              clear hlead0
              go_wp2
              go_loopw [47] (fun i wr => ∃ k : Nat, k ≤ f.length ∧ i = .int .i64 k ∧ Lead wr w.heap.size (.slice (some ⟨gl, 0, none⟩) m m) (implL m (prs f (shift ns g) k)) ∧ Below w.heap.size w wr) (fun i _ => f.length - (intOf i).toNat)
              case atStart => exact ⟨0, Nat.zero_le _, rfl, by simpa [prs, implL] using HL0.out, hbe⟩
              case round =>
                obtain ⟨k, hk, rfl, hlead, hbel⟩ := hrel
                by_cases hlt : k < f.length
                · have hlt2 : k < g.length := by omega
                  obtain ⟨p, hp, hpm⟩ := map_nat hfn.out hlt
                  obtain ⟨q0, hq, hqm0⟩ := map_nat hgn.out hlt2
                  obtain ⟨q, hqd⟩ : ∃ q : Nat, q = ns + q0 := ⟨_, rfl⟩
                  have hqm : q < m := by have := HMD.out; omega
                  have hpm' : p < m := by have := HMD.out; omega
                  obtain ⟨b1, o1, rfl, hb1', cell1⟩ := K1.out k hlt
                  obtain ⟨b2, o2, rfl, hb2', cell2⟩ := K2.out k hlt2
                  have c1 : wr.cell? ⟨b1, o1 + k, none⟩ = some (.int .i64 (f.getD k 0)) := (hbel.cell (p := ⟨b1, o1 + k, none⟩) hb1').trans (cell1 k hlt)
                  have c2 : wr.cell? ⟨b2, o2 + k, none⟩ = some (.int .i64 (g.getD k 0)) := (hbel.cell (p := ⟨b2, o2 + k, none⟩) hb2').trans (cell2 k hlt2)
                  have hstep := implL_snoc m (prs f (shift ns g) k) [f.getD k 0, (shift ns g).getD k 0]
                  rw [← prs_snoc] at hstep
                  unfold implStep at hstep
                  simp only [List.getD_cons_zero, List.getD_cons_succ] at hstep
                  rw [shift_getD hlt2, hp, hq, Int.toNat_natCast, show ((ns : Int) + (q0 : Int)).toNat = q from by omega] at hstep
                  rw [hp] at c1
                  rw [hq] at c2
                  have hRl := implL_len m (prs f (shift ns g) k)
                  obtain ⟨R, hR⟩ : ∃ R, R = implL m (prs f (shift ns g) k) := ⟨_, rfl⟩
                  rw [← hR] at hstep hlead hRl
                  have HST := Lib.hid hstep; have HRL := Lib.hid hRl; have HQD := Lib.hid hqd; clear hstep hRl cell1 cell2 hp hq hR hqd
                  have hi0' : (0 : Int) ≤ (k : Int) := Int.natCast_nonneg _
                  have hi1 : (k : Int) < (f.length : Int) := by omega
                  have hi2 : (k : Int) < (g.length : Int) := by omega
                  go_wp2
                  go_still_tail 11, (by kernel_rfl)
                  change wpList _ _ _ _ _ wr.drew
                  have hlead3 : Lead wr.drew w.heap.size (.slice (some ⟨gl, 0, none⟩) m m) R := hlead
                  have hb3 := hbel.drew
                  clear c1 c2 hlead hbel
                  generalize wr.drew = w3 at hlead3 hb3 ⊢
                  go_wp2_with fail
                  rw [show ((ns : Int) + (q0 : Int)) = (q : Int) from by have := HQD.out; omega]
                  refine (join_any _ w.heap.size _ R p q hlead3 (by rw [HRL.out]; exact hpm') (by rw [HRL.out]; exact hqm)).mono ?_
                  rintro e w4 ⟨rfl, hlead4, hg4⟩
                  go_wp2
                  go_roundw
                  case rel => exact ⟨k + 1, by omega, by go_num, by rw [HST.out]; exact hlead4, hb3.grown hg4 hb3.size fun j hj => (lead_lt hlead3 j hj).1⟩
                  case measure => simp [intOf]; omega
                · obtain rfl : k = f.length := by omega
                  go_wp2_with fail
                  refine (classes_any _ w.heap.size _ _ hlead).mono ?_; rintro e w3 ⟨y, rfl, hs3, hb3⟩
                  go_wp2
                  go_ret2
                  exact ⟨_, rfl, hs3.mono hbel.size, hb3 w hbel (Nat.le_refl _)⟩
            · rw [if_neg h4]
              have h4' : 256 < n + n2 := by omega
              clear hn hk h1 h2 h3 h4
              go_enter Try.func54, Try.ntmps54
              go_wp2_with fail
              refine (implSize_any _ _ true D1.out).mono ?_; rintro e w1 ⟨rfl, rfl⟩
              go_wp2_with fail
              refine (implSize_any _ _ true D2.out).mono ?_; rintro e w1 ⟨rfl, rfl⟩
              go_wp2_with fail
              refine (implIsMap_any _ _ _ _ true Rf E1.out).mono ?_; rintro e w1 ⟨rfl, hb1⟩
              go_wp2_with fail
              refine (implIsMap_any _ _ _ _ true (rd_below hb1 Rg) E2.out).mono ?_; rintro e w2 ⟨rfl, hb2⟩
              go_wp2
              go_ret2
              exact ⟨_, rfl, Sl.nil _ _, hb1.trans (hb2.mono hb1.size)⟩
          · rw [if_neg (fun h => h3 h.2.2)]
            have e3 : ((f.length : Int) != (g.length : Int)) = true := by rw [bne_iff_ne]; omega
            clear hn hk h1 h2 h3
            go_enter Try.func54, Try.ntmps54
            go_wp2_with fail
            refine (implSize_any _ _ true D1.out).mono ?_; rintro e w1 ⟨rfl, rfl⟩
            go_wp2_with fail
            refine (implSize_any _ _ true D2.out).mono ?_; rintro e w1 ⟨rfl, rfl⟩
            go_wp2_with fail
            refine (implIsMap_any _ _ _ _ true Rf E1.out).mono ?_; rintro e w1 ⟨rfl, hb1⟩
            go_wp2_with fail
            refine (implIsMap_any _ _ _ _ true (rd_below hb1 Rg) E2.out).mono ?_; rintro e w2 ⟨rfl, hb2⟩
            go_wp2
            go_ret2
            exact ⟨_, rfl, Sl.nil _ _, hb1.trans (hb2.mono hb1.size)⟩
        · have E2 := Lib.hid (decide_eq_false h2)
          rw [if_neg (fun h => h2 h.2.1)]
          clear hn hk h1 h2
          go_enter Try.func54, Try.ntmps54
          go_wp2_with fail
          refine (implSize_any _ _ true D1.out).mono ?_; rintro e w1 ⟨rfl, rfl⟩
          go_wp2_with fail
          refine (implSize_any _ _ true D2.out).mono ?_; rintro e w1 ⟨rfl, rfl⟩
          go_wp2_with fail
          refine (implIsMap_any _ _ _ _ true Rf E1.out).mono ?_; rintro e w1 ⟨rfl, hb1⟩
          go_wp2_with fail
          refine (implIsMap_any _ _ _ _ false (rd_below hb1 Rg) E2.out).mono ?_; rintro e w2 ⟨rfl, hb2⟩
          go_wp2
          go_ret2
          exact ⟨_, rfl, Sl.nil _ _, hb1.trans (hb2.mono hb1.size)⟩
      · have E1 := Lib.hid (decide_eq_false h1)
        rw [if_neg (fun h => h1 h.1)]
        clear hn hk h1
        go_enter Try.func54, Try.ntmps54
        go_wp2_with fail
        refine (implSize_any _ _ true D1.out).mono ?_; rintro e w1 ⟨rfl, rfl⟩
        go_wp2_with fail
        refine (implSize_any _ _ true D2.out).mono ?_; rintro e w1 ⟨rfl, rfl⟩
        go_wp2_with fail
        refine (implIsMap_any _ _ _ _ false Rf E1.out).mono ?_; rintro e w1 ⟨rfl, hb1⟩
        go_wp2
        go_ret2
        exact ⟨_, rfl, Sl.nil _ _, hb1⟩
    · have D2 := Lib.hid (decide_eq_false hk)
      rw [if_neg (fun h => hk h.2)]
      clear hn hk
      go_enter Try.func54, Try.ntmps54
      go_wp2_with fail
      refine (implSize_any _ _ true D1.out).mono ?_; rintro e w1 ⟨rfl, rfl⟩
      go_wp2_with fail
      refine (implSize_any _ _ false D2.out).mono ?_; rintro e w1 ⟨rfl, rfl⟩
      go_wp2
      go_ret2
      exact ⟨_, rfl, Sl.nil _ _, Below.refl _ _⟩
  · have D1 := Lib.hid (decide_eq_false hn)
    rw [if_neg (fun h => hn h.1)]
    clear hn
    go_enter Try.func54, Try.ntmps54
    go_wp2_with fail
    refine (implSize_any _ _ false D1.out).mono ?_; rintro e w1 ⟨rfl, rfl⟩
    go_wp2
    go_ret2
    exact ⟨_, rfl, Sl.nil _ _, Below.refl _ _⟩

end Go.Proofs.Ytfnneogadciimab
