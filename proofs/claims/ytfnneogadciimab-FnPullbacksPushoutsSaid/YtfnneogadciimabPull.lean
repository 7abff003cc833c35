
/- PullbackOf: the program and its model. -/
import Derived.Test.YtfnneogadciimabJoinP
import Derived.Test.YtfnneogadciimabMap
import Derived.Test.YtfnneogadciimabRows2
set_option linter.unusedSimpArgs false
set_option linter.unusedVariables false
set_option linter.unusedSectionVars false
namespace Go.Proofs.Ytfnneogadciimab
open Go.RowKit

/-- The pairs with first element i, j below m, that have the same image. -/
def pRow (f g : List Int) (i m : Nat) : List (List Int) := ((List.range m).filter fun j => f.getD i 0 == g.getD j 0).map fun (j : Nat) => [(i : Int), (j : Int)]
def pAll (f g : List Int) (k : Nat) : List (List Int) := (List.range k).flatMap fun i => pRow f g i g.length
def fPullbackOf (n : Int) (f g : List Int) : List (List Int) × Int :=
  if SizeP n then (if MapP n f ∧ MapP n g then (if (pAll f g f.length).length ≤ 256 then (pAll f g f.length, 0) else ([], 3)) else ([], 1)) else ([], 2)

theorem pRow_yes {f g : List Int} {i m : Nat} (h : (f.getD i 0 == g.getD m 0) = true) : pRow f g i (m + 1) = pRow f g i m ++ [[(i : Int), (m : Int)]] := by
  unfold pRow
  rw [List.range_succ, List.filter_append, List.map_append]
  have : List.filter (fun j => f.getD i 0 == g.getD j 0) [m] = [m] := by rw [List.filter_cons, if_pos h]; rfl
  rw [this]; rfl
theorem pRow_no {f g : List Int} {i m : Nat} (h : (f.getD i 0 == g.getD m 0) = false) : pRow f g i (m + 1) = pRow f g i m := by
  unfold pRow
  rw [List.range_succ, List.filter_append, List.map_append]
  have : List.filter (fun j => f.getD i 0 == g.getD j 0) [m] = [] := by rw [List.filter_cons, if_neg (by rw [h]; simp)]; rfl
  rw [this]; simp
theorem pAll_succ (f g : List Int) (k : Nat) : pAll f g (k + 1) = pAll f g k ++ pRow f g k g.length := by
  simp [pAll, List.range_succ]
theorem pRow_len (f g : List Int) (i m : Nat) : (pRow f g i m).length ≤ m := by
  simpa [pRow] using List.length_filter_le (fun j => f.getD i 0 == g.getD j 0) (List.range m)
theorem pAll_len (f g : List Int) (k : Nat) : (pAll f g k).length ≤ k * g.length := by
  induction k with
  | zero => simp [pAll]
  | succ k ih =>
    rw [pAll_succ, List.length_append, Nat.succ_mul]
    have := pRow_len f g k g.length
    omega

theorem pRow_mono (f g : List Int) (i m : Nat) : ∀ m', m ≤ m' → (pRow f g i m).length ≤ (pRow f g i m').length := by
  intro m' h
  induction m' with
  | zero => have : m = 0 := by omega
            subst this; exact Nat.le_refl _
  | succ q ih =>
    by_cases he : m = q + 1
    · subst he; exact Nat.le_refl _
    · have h1 := ih (by omega)
      by_cases hb : (f.getD i 0 == g.getD q 0) = true
      · rw [pRow_yes hb, List.length_append]; omega
      · rw [pRow_no (by simpa using hb)]; exact h1

theorem pAll_mono (f g : List Int) (k : Nat) : ∀ k', k ≤ k' → (pAll f g k).length ≤ (pAll f g k').length := by
  intro k' h
  induction k' with
  | zero => have : k = 0 := by omega
            subst this; exact Nat.le_refl _
  | succ q ih =>
    by_cases he : k = q + 1
    · subst he; exact Nat.le_refl _
    · have h1 := ih (by omega)
      rw [pAll_succ, List.length_append]
      omega

theorem sl2_quiet {w : World} {base : Nat} {v : Value} {rows : List (List Int)} {n : Nat} (h : Sl2 w base v rows) : Sl2 (w.drewN n) base v rows := h

theorem retRI_nil {w : World} {W : World} {c : Int} (hb : Below W.heap.size W w) : RetRI W [] c (.returned (.tuple #[.slice none 0 0, .int .i64 c])) w :=
  ⟨_, rfl, sl2_nil _ _, hb⟩

theorem pAll_small {f g : List Int} (hf : f.length ≤ 256) (hg : g.length ≤ 256) {k : Nat} (hk : k ≤ f.length) : (pAll f g k).length ≤ 65536 := by
  have h1 := pAll_len f g k
  have h2 : k * g.length ≤ 256 * 256 := Nat.mul_le_mul (by omega) hg
  omega

set_option maxHeartbeats 1600000 in
set_option maxRecDepth 100000 in
theorem spec_PullbackOf (w : World) (n : Int) (v : Value) (f : List Int) (u : Value) (g : List Int) (hf : Rd w v f) (hg : Rd w u g) :
    Calls Try.prog 50 #[.int .i64 n, v, u] w (RetRI w (fPullbackOf n f g).1 (fPullbackOf n f g).2) := by
  unfold fPullbackOf
  have Rf := hf; have Rg := hg
  obtain ⟨a1, cap1, rfl, l1, k1⟩ := hf
  obtain ⟨a2, cap2, rfl, l2, k2⟩ := hg
  have K1 := Lib.hid k1; have K2 := Lib.hid k2; clear k1 k2
  by_cases hn : SizeP n
  · rw [if_pos hn]
    have D := Lib.hid (decide_eq_true hn)
    by_cases hm1 : MapP n f
    · have E1 := Lib.hid (decide_eq_true hm1)
      by_cases hm2 : MapP n g
      · have E2 := Lib.hid (decide_eq_true hm2)
        rw [if_pos ⟨hm1, hm2⟩]
        have hf2 := hm1.2.1
        have hg2 := hm2.2.1
        obtain ⟨r, hr⟩ : ∃ r, r = (if (pAll f g f.length).length ≤ 256 then (pAll f g f.length, (0 : Int)) else ([], 3)) := ⟨_, rfl⟩
        rw [← hr]
        have HR := Lib.hid hr
        clear hn hm1 hm2 hr
        go_enter Try.func50, Try.ntmps50
        go_wp2_with fail
        refine (specSize_any _ _ true D.out).mono ?_; rintro e w1 ⟨rfl, rfl⟩
        go_wp2_with fail
        refine (specIsMap_any _ _ _ _ true Rf E1.out).mono ?_; rintro e w1 ⟨rfl, hb1⟩
        go_wp2_with fail
        refine (specIsMap_any _ _ _ _ true (rd_below hb1 Rg) E2.out).mono ?_; rintro e w2 ⟨rfl, hb2⟩
        have hb12 := hb1.trans (hb2.mono hb1.size)
        go_wp2
        have hbe : Below w.heap.size w (w2.alloc (.cells #[] 22)) := hb12.alloc hb12.size _
        have HE := Lib.hid (sl2_mono (sl2_empty w2) hb12.size)
        go_loopw [8, 9] (fun x i wr => ∃ k : Nat, k ≤ f.length ∧ i = .int .i64 k ∧ Sl2 wr w.heap.size x (pAll f g k) ∧ Below w.heap.size w wr) (fun _ i _ => f.length - (intOf i).toNat)
        case atStart => exact ⟨0, Nat.zero_le _, rfl, by simpa [pAll] using HE.out, hbe⟩
        case round =>
          obtain ⟨k, hk, rfl, hs, hbel⟩ := hrel
          have hsm := pAll_small hf2 hg2 hk
          by_cases hlt : k < f.length
          · obtain ⟨b1, o1, rfl, hb1', cell1⟩ := K1.out k hlt
            have HC1 := Lib.hid (cell1 k hlt); clear cell1
            have HS := Lib.hid hs; have HB := Lib.hid hbel; clear hs hbel
            have hsucc := Lib.hid (pAll_succ f g k)
            go_wp2
            go_loopw [8, 10] (fun x i wr => ∃ m : Nat, m ≤ g.length ∧ i = .int .i64 m ∧ Sl2 wr w.heap.size x (pAll f g k ++ pRow f g k m) ∧ Below w.heap.size w wr) (fun _ i _ => g.length - (intOf i).toNat)
            case atStart => exact ⟨0, Nat.zero_le _, rfl, by simpa [pRow] using HS.out, HB.out⟩
            case round =>
              obtain ⟨m, hm, rfl, hs, hbel⟩ := hrel
              by_cases hlm : m < g.length
              · obtain ⟨b2, o2, rfl, hb2', cell2⟩ := K2.out m hlm
                have c1 : wr.cell? ⟨b1, o1 + k, none⟩ = some (.int .i64 (f.getD k 0)) := (hbel.cell (p := ⟨b1, o1 + k, none⟩) hb1').trans HC1.out
                have c2 : wr.cell? ⟨b2, o2 + m, none⟩ = some (.int .i64 (g.getD m 0)) := (hbel.cell (p := ⟨b2, o2 + m, none⟩) hb2').trans (cell2 m hlm)
                have hlr := pRow_len f g k m
                have hll : (pAll f g k ++ pRow f g k m).length ≤ 70000 := by rw [List.length_append]; omega
                have hy := pRow_yes (f := f) (g := g) (i := k) (m := m)
                have hno := pRow_no (f := f) (g := g) (i := k) (m := m)
                obtain ⟨x, hx⟩ : ∃ x, x = f.getD k 0 := ⟨_, rfl⟩
                obtain ⟨y, hyd⟩ : ∃ y, y = g.getD m 0 := ⟨_, rfl⟩
                rw [← hx] at c1 hy hno
                rw [← hyd] at c2 hy hno
                clear hx hyd cell2
                have i1 : (0 : Int) ≤ (k : Int) := by omega
                have i2 : (k : Int) < (f.length : Int) := by omega
                have i3 : (0 : Int) ≤ (m : Int) := by omega
                have i4 : (m : Int) < (g.length : Int) := by omega
                by_cases hxy : x = y
                · have ht : (x == y) = true := by simpa using hxy
                  have HP := Lib.hid (hy ht); clear hy hno hxy
                  go_wp2
                  go_quiet (fail)
                  go_wp2_with (at_builtin; refine wp_app2 rfl _ _ _ rfl Try.underlying23 (k : Int) (m : Int) (sl2_quiet hs) rfl rfl (by omega) hbel.size ?_; intro g2 cap2 w4 hs4 hg4 hge)
                  have hfin : Sl2 w4 w.heap.size (.slice (some ⟨g2, 0, none⟩) ((pAll f g k).length + (pRow f g k m).length + 1) cap2) (pAll f g k ++ pRow f g k (m + 1)) := by rw [HP.out, ← List.append_assoc, ← List.length_append]; exact hs4
                  have HFIN := Lib.hid hfin; clear hfin hs4
                  go_roundw
                  case rel => exact ⟨m + 1, by omega, by go_num, HFIN.out, (below_quiet hbel).grown hg4 hbel.size hge⟩
                  case measure => simp [intOf]; omega
                · have ht : (x == y) = false := by simpa using hxy
                  have HP := Lib.hid (hno ht); clear hy hno hxy
                  go_wp2
                  go_quiet (fail)
                  go_wp2
                  go_roundw
                  case rel => exact ⟨m + 1, by omega, by go_num, by rw [HP.out]; exact sl2_quiet hs, below_quiet hbel⟩
                  case measure => simp [intOf]; omega
              · obtain rfl : m = g.length := by omega
                go_wp2
                go_roundw
                case rel => exact ⟨k + 1, by omega, by go_num, by rw [hsucc.out]; exact hs, hbel⟩
                case measure => simp [intOf]; omega
          · obtain rfl : k = f.length := by omega
            obtain ⟨oa, oc, rfl, _⟩ := sl2_form hs
            have hr := HR.out
            by_cases hbig : (pAll f g f.length).length ≤ 256
            · rw [if_pos hbig] at hr
              subst hr
              have HSS := Lib.hid hs; clear hs
              go_wp2
              go_ret2
              exact ⟨_, rfl, HSS.out, hbel⟩
            · rw [if_neg hbig] at hr
              subst hr
              have hbig' : 256 < (pAll f g f.length).length := by omega
              clear hs hbig
              go_wp2
              go_ret2
              exact retRI_nil hbel
      · have E2 := Lib.hid (decide_eq_false hm2)
        rw [if_neg (fun h => hm2 h.2)]
        clear hn hm1 hm2
        go_enter Try.func50, Try.ntmps50
        go_wp2_with fail
        refine (specSize_any _ _ true D.out).mono ?_; rintro e w1 ⟨rfl, rfl⟩
        go_wp2_with fail
        refine (specIsMap_any _ _ _ _ true Rf E1.out).mono ?_; rintro e w1 ⟨rfl, hb1⟩
        go_wp2_with fail
        refine (specIsMap_any _ _ _ _ false (rd_below hb1 Rg) E2.out).mono ?_; rintro e w2 ⟨rfl, hb2⟩
        go_wp2
        go_ret2
        exact retRI_nil (hb1.trans (hb2.mono hb1.size))
    · have E1 := Lib.hid (decide_eq_false hm1)
      rw [if_neg (fun h => hm1 h.1)]
      clear hn hm1
      go_enter Try.func50, Try.ntmps50
      go_wp2_with fail
      refine (specSize_any _ _ true D.out).mono ?_; rintro e w1 ⟨rfl, rfl⟩
      go_wp2_with fail
      refine (specIsMap_any _ _ _ _ false Rf E1.out).mono ?_; rintro e w1 ⟨rfl, hb1⟩
      go_wp2
      go_ret2
      exact retRI_nil hb1
  · rw [if_neg hn]
    have D := Lib.hid (decide_eq_false hn); clear hn
    go_enter Try.func50, Try.ntmps50
    go_wp2_with fail
    refine (specSize_any _ _ false D.out).mono ?_; rintro e w1 ⟨rfl, rfl⟩
    go_wp2
    go_ret2
    exact retRI_nil (Below.refl _ _)

set_option maxHeartbeats 1600000 in
set_option maxRecDepth 100000 in
theorem impl_PullbackOf (w : World) (n : Int) (v : Value) (f : List Int) (u : Value) (g : List Int) (hf : Rd w v f) (hg : Rd w u g) :
    Calls Try.prog 49 #[.int .i64 n, v, u] w (RetRI w (fPullbackOf n f g).1 (fPullbackOf n f g).2) := by
  unfold fPullbackOf
  have Rf := hf; have Rg := hg
  obtain ⟨a1, cap1, rfl, l1, k1⟩ := hf
  obtain ⟨a2, cap2, rfl, l2, k2⟩ := hg
  have K1 := Lib.hid k1; have K2 := Lib.hid k2; clear k1 k2
  by_cases hn : SizeP n
  · rw [if_pos hn]
    by_cases hm1 : MapP n f
    · have hc : codeM n f = 0 := by simp [codeM, hn, hm1]
      have HC := Lib.hid hc; clear hc
      by_cases hm2 : MapP n g
      · have E2 := Lib.hid (decide_eq_true hm2)
        rw [if_pos ⟨hm1, hm2⟩]
        have hf2 := hm1.2.1
        have hg2 := hm2.2.1
        obtain ⟨r, hr⟩ : ∃ r, r = (if (pAll f g f.length).length ≤ 256 then (pAll f g f.length, (0 : Int)) else ([], 3)) := ⟨_, rfl⟩
        rw [← hr]
        have HR := Lib.hid hr
        clear hn hm1 hm2 hr
        go_enter Try.func49, Try.ntmps49
        go_wp2_with fail
        refine (implCode_any _ _ _ _ 0 Rf HC.out).mono ?_; rintro e w1 ⟨rfl, hb1⟩
        go_wp2_with fail
        refine (implIsMap_any _ _ _ _ true (rd_below hb1 Rg) E2.out).mono ?_; rintro e w2 ⟨rfl, hb2⟩
        have hb12 := hb1.trans (hb2.mono hb1.size)
        go_wp2
        go_loopw [9, 24] (fun x i wr => ∃ k : Nat, k ≤ f.length ∧ i = .int .i64 k ∧ Sl2 wr w.heap.size x (pAll f g k) ∧ (pAll f g k).length ≤ 256 ∧ Below w.heap.size w wr) (fun _ i _ => f.length - (intOf i).toNat)
        case atStart => exact ⟨0, Nat.zero_le _, rfl, by simpa [pAll] using sl2_nil _ _, by simp [pAll], hb12⟩
        case round =>
          obtain ⟨k, hk, rfl, hs, hlen, hbel⟩ := hrel
          by_cases hlt : k < f.length
          · obtain ⟨b1, o1, rfl, hb1', cell1⟩ := K1.out k hlt
            have HC1 := Lib.hid (cell1 k hlt); clear cell1
            have HS := Lib.hid hs; have HB := Lib.hid hbel; have HLEN := Lib.hid hlen; clear hs hbel hlen
            have hsucc := Lib.hid (pAll_succ f g k)
            have hmono := Lib.hid (pAll_mono f g (k + 1) f.length (by omega))
            go_wp2
            go_loopw [9, 29] (fun x i wr => ∃ m : Nat, m ≤ g.length ∧ i = .int .i64 m ∧ Sl2 wr w.heap.size x (pAll f g k ++ pRow f g k m) ∧ (pAll f g k ++ pRow f g k m).length ≤ 256 ∧ Below w.heap.size w wr) (fun _ i _ => g.length - (intOf i).toNat)
            case atStart => exact ⟨0, Nat.zero_le _, rfl, by simpa [pRow] using HS.out, by simpa [pRow] using HLEN.out, HB.out⟩
            case round =>
              obtain ⟨m, hm, rfl, hs, hlen, hbel⟩ := hrel
              by_cases hlm : m < g.length
              · obtain ⟨b2, o2, rfl, hb2', cell2⟩ := K2.out m hlm
                have c1 : wr.cell? ⟨b1, o1 + k, none⟩ = some (.int .i64 (f.getD k 0)) := (hbel.cell (p := ⟨b1, o1 + k, none⟩) hb1').trans HC1.out
                have c2 : wr.cell? ⟨b2, o2 + m, none⟩ = some (.int .i64 (g.getD m 0)) := (hbel.cell (p := ⟨b2, o2 + m, none⟩) hb2').trans (cell2 m hlm)
                have hy := pRow_yes (f := f) (g := g) (i := k) (m := m)
                have hno := pRow_no (f := f) (g := g) (i := k) (m := m)
                have hrm := pRow_mono f g k (m + 1) g.length (by omega)
                obtain ⟨rows, hrows⟩ : ∃ rows, rows = pAll f g k ++ pRow f g k m := ⟨_, rfl⟩
                rw [← hrows] at hs hlen
                obtain ⟨ra, rc, rfl, _⟩ := sl2_form hs
                obtain ⟨x, hx⟩ : ∃ x, x = f.getD k 0 := ⟨_, rfl⟩
                obtain ⟨y, hyd⟩ : ∃ y, y = g.getD m 0 := ⟨_, rfl⟩
                rw [← hx] at c1 hy hno
                rw [← hyd] at c2 hy hno
                clear hx hyd cell2
                have HROWS := Lib.hid hrows
                have i1 : (0 : Int) ≤ (k : Int) := by omega
                have i2 : (k : Int) < (f.length : Int) := by omega
                have i3 : (0 : Int) ≤ (m : Int) := by omega
                have i4 : (m : Int) < (g.length : Int) := by omega
                by_cases hxy : x = y
                · have ht : (x == y) = true := by simpa using hxy
                  have hp := hy ht
                  have htn : (x != y) = false := by simpa using hxy
                  by_cases hfull : rows.length = 256
                  · have hbig : ¬ (pAll f g f.length).length ≤ 256 := by
                      have h1 := hmono.out
                      rw [hsucc.out, List.length_append] at h1
                      have h2 := hrm
                      rw [hp, List.length_append] at h2
                      have h3 := hfull
                      rw [hrows, List.length_append] at h3
                      simp only [List.length_singleton] at h2
                      omega
                    have hrr : r = ([], 3) := by rw [HR.out, if_neg hbig]
                    subst hrr
                    have he : ((rows.length : Int) == 256) = true := by rw [beq_iff_eq]; omega
                    clear hy hno hp hrm hrows hbig hfull hxy hs
                    go_wp2
                    go_quiet (fail)
                    go_wp2
                    go_ret2
                    exact retRI_nil (below_quiet hbel)
                  · have he : ((rows.length : Int) == 256) = false := by rw [beq_eq_false_iff_ne]; omega
                    have hle : rows.length + 1 ≤ 256 := by omega
                    have hfin0 : pAll f g k ++ pRow f g k (m + 1) = rows ++ [[(k : Int), (m : Int)]] := by rw [hp, hrows, List.append_assoc]
                    have HP := Lib.hid hfin0; clear hy hno hp hrm hrows hfull hxy hfin0
                    go_wp2
                    go_quiet (fail)
                    go_wp2_with (at_builtin; refine wp_app2 rfl _ _ _ rfl Try.underlying23 (k : Int) (m : Int) (sl2_quiet hs) rfl rfl (by omega) hbel.size ?_; intro g2 cap2 w4 hs4 hg4 hge)
                    have HFIN := Lib.hid hs4; clear hs4
                    go_roundw
                    case rel => exact ⟨m + 1, by omega, by go_num, by rw [HP.out]; exact HFIN.out, by rw [HP.out]; simpa using hle, (below_quiet hbel).grown hg4 hbel.size hge⟩
                    case measure => simp [intOf]; omega
                · have ht : (x == y) = false := by simpa using hxy
                  have htn : (x != y) = true := by simpa using hxy
                  have hp := hno ht
                  have hfin0 : pAll f g k ++ pRow f g k (m + 1) = rows := by rw [hp, hrows]
                  have HP := Lib.hid hfin0; clear hy hno hp hrm hrows hxy hfin0
                  have HSS := Lib.hid hs; clear hs
                  go_wp2
                  go_quiet (fail)
                  go_wp2
                  go_roundw
                  case rel => exact ⟨m + 1, by omega, by go_num, by rw [HP.out]; exact sl2_quiet HSS.out, by rw [HP.out]; exact hlen, below_quiet hbel⟩
                  case measure => simp [intOf]; omega
              · obtain rfl : m = g.length := by omega
                have HSS := Lib.hid hs; have HLL := Lib.hid hlen; clear hs hlen
                go_wp2
                go_roundw
                case rel => exact ⟨k + 1, by omega, by go_num, by rw [hsucc.out]; exact HSS.out, by rw [hsucc.out]; exact HLL.out, hbel⟩
                case measure => simp [intOf]; omega
          · obtain rfl : k = f.length := by omega
            have hr := HR.out
            rw [if_pos hlen] at hr
            subst hr
            have HSS := Lib.hid hs; clear hs hlen
            go_wp2
            go_ret2
            exact ⟨_, rfl, HSS.out, hbel⟩
      · have E2 := Lib.hid (decide_eq_false hm2)
        rw [if_neg (fun h => hm2 h.2)]
        clear hn hm1 hm2
        go_enter Try.func49, Try.ntmps49
        go_wp2_with fail
        refine (implCode_any _ _ _ _ 0 Rf HC.out).mono ?_; rintro e w1 ⟨rfl, hb1⟩
        go_wp2_with fail
        refine (implIsMap_any _ _ _ _ false (rd_below hb1 Rg) E2.out).mono ?_; rintro e w2 ⟨rfl, hb2⟩
        go_wp2
        go_ret2
        exact retRI_nil (hb1.trans (hb2.mono hb1.size))
    · have hc : codeM n f = 1 := by simp [codeM, hn, hm1]
      have HC := Lib.hid hc; clear hc
      rw [if_neg (fun h => hm1 h.1)]
      clear hn hm1
      go_enter Try.func49, Try.ntmps49
      go_wp2_with fail
      refine (implCode_any _ _ _ _ 1 Rf HC.out).mono ?_; rintro e w1 ⟨rfl, hb1⟩
      go_wp2
      go_ret2
      exact retRI_nil hb1
  · rw [if_neg hn]
    have hc : codeM n f = 2 := by simp [codeM, hn]
    have HC := Lib.hid hc; clear hn hc
    go_enter Try.func49, Try.ntmps49
    go_wp2_with fail
    refine (implCode_any _ _ _ _ 2 Rf HC.out).mono ?_; rintro e w1 ⟨rfl, hb1⟩
    go_wp2
    go_ret2
    exact retRI_nil hb1

theorem offR_two : ∀ (rows : List (List Int)), (∀ r ∈ rows, r.length = 2) → ∀ j, j ≤ rows.length → offR rows j = 2 * j := by
  intro rows h j
  induction j with
  | zero => intro _; rfl
  | succ j ih =>
    intro hj
    simp only [offR]
    rw [ih (by omega), h _ (by rw [List.getD_eq_getElem?_getD, List.getElem?_eq_getElem (by omega)]; exact List.getElem_mem _)]
    omega

theorem pull_bound (n : Int) (f g : List Int) : offR (fPullbackOf n f g).1 (fPullbackOf n f g).1.length ≤ 1152921504606846 := by
  have hp : ∀ r ∈ (fPullbackOf n f g).1, r.length = 2 := fun r hr => by
    unfold fPullbackOf at hr
    split at hr
    · split at hr
      · split at hr
        · simp only [pAll, pRow, List.mem_flatMap, List.mem_map] at hr
          obtain ⟨i, _, j, _, rfl⟩ := hr
          rfl
        · simp at hr
      · simp at hr
    · simp at hr
  have hl : (fPullbackOf n f g).1.length ≤ 256 := by
    unfold fPullbackOf
    split
    · split
      · split
        · assumption
        · simp
      · simp
    · simp
  rw [offR_two _ hp _ (Nat.le_refl _)]
  omega

theorem bound_PullbackOf (n : Int) (f g : List Int) : offR (fPullbackOf n f g).1 (fPullbackOf n f g).1.length ≤ 1152921504606846 := pull_bound n f g

end Go.Proofs.Ytfnneogadciimab
