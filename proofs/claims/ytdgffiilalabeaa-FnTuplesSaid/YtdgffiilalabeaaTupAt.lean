
/- TupleAt: the program and its model. -/
import Derived.Test.YtdgffiilalabeaaTup
set_option linter.unusedSimpArgs false
set_option linter.unusedVariables false
set_option linter.unusedSectionVars false
namespace Go.Proofs.Ytdgffiilalabeaa
open Go.RowKit

def dvF (s : List Int) (number : Int) : Nat → Int
  | 0 => number
  | m + 1 => dvF s number m / s.getD (s.length - 1 - m) 0
def outF (s : List Int) (number : Int) : Nat → List Int
  | 0 => []
  | m + 1 => (dvF s number m % s.getD (s.length - 1 - m) 0) :: outF s number m
def tupAt (s : List Int) (number : Int) : List Int := outF s number s.length
def fTupleAt (s : List Int) (number : Int) : List Int × Int :=
  if SizesP s then (if totalV s = -1 then ([], 3) else if 0 ≤ number ∧ number < totalV s then (tupAt s number, 0) else ([], 4)) else ([], 2)

theorem outF_len (s : List Int) (number : Int) (m : Nat) : (outF s number m).length = m := by
  induction m with
  | zero => rfl
  | succ m ih => simp [outF, ih]

theorem size_pos {s : List Int} (hs : SizesP s) (h0 : 0 ∉ s) {k : Nat} (hk : k < s.length) : 1 ≤ s.getD k 0 ∧ s.getD k 0 ≤ 256 := by
  have hm := mem_getD hk
  have h3 : s.getD k 0 ≠ 0 := fun e => h0 (by rw [← e]; exact hm)
  have h1 := (hs _ hm).1
  have h2 := (hs _ hm).2
  omega

theorem dvF_bound {s : List Int} (hs : SizesP s) (h0 : 0 ∉ s) {number : Int} (hn : 0 ≤ number) : ∀ m, m ≤ s.length → 0 ≤ dvF s number m ∧ dvF s number m ≤ number := by
  intro m
  induction m with
  | zero => intro _; exact ⟨hn, Int.le_refl _⟩
  | succ m ih =>
    intro hm
    have h := ih (by omega)
    have hp := size_pos hs h0 (k := s.length - 1 - m) (by omega)
    simp only [dvF]
    refine ⟨Int.ediv_nonneg h.1 (by omega), ?_⟩
    have := Int.ediv_le_self (s.getD (s.length - 1 - m) 0) h.1
    omega

theorem at_fill {s : List Int} {number : Int} {q : Nat} (hq : q < s.length) :
    (List.replicate (q + 1) (0 : Int) ++ outF s number (s.length - (q + 1))).set q (dvF s number (s.length - (q + 1)) % s.getD q 0) = List.replicate q 0 ++ outF s number (s.length - q) := by
  rw [List.set_append, if_pos (by simp), List.replicate_succ', List.set_append, if_neg (by simp)]
  have h1 : s.length - q = (s.length - (q + 1)) + 1 := by omega
  have h2 : s.length - 1 - (s.length - (q + 1)) = q := by omega
  rw [h1]
  simp only [outF, h2]
  simp

theorem dv_step {s : List Int} {number : Int} {q : Nat} (hq : q < s.length) : dvF s number (s.length - q) = dvF s number (s.length - (q + 1)) / s.getD q 0 := by
  have h1 : s.length - q = (s.length - (q + 1)) + 1 := by omega
  have h2 : s.length - 1 - (s.length - (q + 1)) = q := by omega
  rw [h1]
  simp only [dvF, h2]

theorem retLI_nil2 {w : World} {W : World} {c : Int} (hb : Below W.heap.size W w) : RetLI W [] c (.returned (.tuple #[.slice none 0 0, .int .i64 c])) w :=
  ⟨_, rfl, Sl.nil _ _, hb⟩

set_option maxHeartbeats 800000 in
set_option maxRecDepth 100000 in
theorem specAt_any (w : World) (v : Value) (s : List Int) (number : Int) (h : Rd w v s) (hs : SizesP s) (h0 : 0 ∉ s) (hn0 : 0 ≤ number) (hn1 : number ≤ 1000000000000) :
    Calls Try.prog 101 #[v, .int .i64 number] w (RetL w (tupAt s number)) := by
  obtain ⟨a, cap, rfl, hl, hc⟩ := h
  have HC := Lib.hid hc; clear hc
  have HSZ := Lib.hid hs; have H0 := Lib.hid h0; clear hs h0
  go_enter Try.func101, Try.ntmps101
  go_wp2_with (at_make; refine wp_make64 rfl _ _ _ rfl Try.underlying24 .i64 .i64 _ _ s.length rfl rfl rfl rfl hl ?_; intro w1 hs1 hb1 hz1)
  have HS := Lib.hid hs1; clear hs1
  go_loopw [1, 6] (fun c i wr => ∃ (j : Nat) (i' : Int), j ≤ s.length ∧ i = .int .i64 i' ∧ Hid (i' = (j : Int) - 1) ∧ c = .int .i64 (dvF s number (s.length - j)) ∧ Sl wr w.heap.size (.slice (some ⟨w.heap.size, 0, none⟩) s.length s.length) (List.replicate j 0 ++ outF s number (s.length - j)) ∧ Below w.heap.size w wr) (fun _ i _ => (intOf i + 1).toNat)
  case atStart => exact ⟨s.length, _, Nat.le_refl _, rfl, rfl, by simp [dvF], by simpa [outF] using HS.out, hb1⟩
  case round =>
    obtain ⟨j, i', hj, rfl, hi', rfl, hs, hbel⟩ := hrel
    cases j with
    | zero =>
      obtain rfl : i' = -1 := by have := hi'.out; omega
      have HS2 := Lib.hid hs; clear hs hi'
      go_wp2
      go_ret
      exact ⟨_, rfl, by simpa [tupAt] using HS2.out, hbel⟩
    | succ q =>
      obtain rfl : i' = (q : Int) := by have := hi'.out; omega
      clear hi'
      obtain ⟨bb, off, rfl, hbs, hcell⟩ := HC.out q (by omega)
      have c1 : wr.cell? ⟨bb, off + q, none⟩ = some (.int .i64 (s.getD q 0)) := (hbel.cell (p := ⟨bb, off + q, none⟩) hbs).trans (hcell q (by omega))
      have hx := size_pos HSZ.out H0.out (k := q) (by omega)
      have hd := dvF_bound HSZ.out H0.out hn0 (s.length - (q + 1)) (by omega)
      have hset := sl_set hs q (dvF s number (s.length - (q + 1)) % s.getD q 0)
      rw [at_fill (by omega)] at hset
      have hstep := dv_step (s := s) (number := number) (q := q) (by omega)
      have c3 := sl_cell hs (j := q) (by simp [outF_len]; omega)
      have c4 := sl_frozen hs q
      have hblk := (sl_lt hs).1
      clear hcell
      obtain ⟨x, hxd⟩ : ∃ x, x = s.getD q 0 := ⟨_, rfl⟩
      obtain ⟨n, hnd⟩ : ∃ n, n = dvF s number (s.length - (q + 1)) := ⟨_, rfl⟩
      rw [← hxd] at c1 hx hset hstep
      rw [← hnd] at hd hset hstep
      rw [← hnd]
      obtain ⟨hx1, hx2⟩ := hx
      obtain ⟨hd1, hd2⟩ := hd
      have hm1 := Int.emod_nonneg n (show x ≠ 0 by omega)
      have hm2 := Int.emod_lt_of_pos n (show 0 < x by omega)
      have hsz := hbel.size
      have cb : wr.cell? ⟨bb, off + q, none⟩ = (wr.setCell ⟨w.heap.size, q, none⟩ (.int .i64 (n % x))).cell? ⟨bb, off + q, none⟩ := by
        rw [World.cell?_setCell_other]
        intro h
        have h1 : bb = w.heap.size := (congrArg (fun z : Addr => z.block) h).symm
        omega
      have c5 := cb.symm.trans c1
      have HSET := Lib.hid hset; have HST := Lib.hid hstep; clear hset hstep hs hxd hnd cb
      generalize (List.replicate (q + 1) (0 : Int) ++ outF s number (s.length - (q + 1))).getD q 0 = z at c3
      have i1 : (q : Int) < (s.length : Int) := by omega
      go_wp2
      go_roundw
      case rel => exact ⟨q, _, by omega, rfl, rfl, by rw [HST.out], HSET.out.1, hbel.setCell hblk _⟩
      case measure => first | (simp [intOf]; done) | (simp [intOf]; omega)

theorem total_range {s : List Int} : totalV s = -1 ∨ (0 ∉ s ∧ totalV s ≤ 1000000000000) ∨ (0 ∈ s ∧ totalV s = 0) := by
  by_cases h : 0 ∈ s
  · exact .inr (.inr ⟨h, total_zero h⟩)
  · by_cases hf : (List.range (s.length + 1)).all (fun j => decide (prodTo s j ≤ M)) = true
    · refine .inr (.inl ⟨h, ?_⟩)
      have := (fits_iff s _).1 hf
      rw [total_fits h this]
      exact this _ (Nat.le_refl _)
    · exact .inl (by unfold totalV; rw [if_neg h, if_neg hf])

set_option maxHeartbeats 800000 in
set_option maxRecDepth 100000 in
theorem spec_TupleAt (w : World) (v : Value) (s : List Int) (number : Int) (h : Rd w v s) :
    Calls Try.prog 34 #[v, .int .i64 number] w (RetLI w (fTupleAt s number).1 (fTupleAt s number).2) := by
  unfold fTupleAt
  have R := h
  obtain ⟨a, cap, rfl, hl, hc⟩ := h
  have HC := Lib.hid hc; clear hc
  by_cases hs : SizesP s
  · have D := Lib.hid (decide_eq_true hs)
    have HSZ := Lib.hid hs
    rw [if_pos hs]
    clear hs
    by_cases ht : totalV s = -1
    · rw [if_pos ht]
      obtain ⟨tv, htv⟩ : ∃ tv, tv = totalV s := ⟨_, rfl⟩
      have HT := Lib.hid ht; clear ht htv
      go_enter Try.func34, Try.ntmps34
      go_wp2_with fail
      refine (specSizes_any _ _ _ true R D.out).mono ?_; rintro e w1 ⟨rfl, hb1⟩
      go_wp2_with fail
      refine (specTotal_any _ _ _ (rd_below hb1 R) HSZ.out).mono ?_; rw [HT.out]; rintro e w2 ⟨rfl, hb2⟩
      go_wp2
      go_ret2
      exact retLI_nil2 (hb1.trans (hb2.mono hb1.size))
    · rw [if_neg ht]
      by_cases hr : 0 ≤ number ∧ number < totalV s
      · rw [if_pos hr]
        obtain ⟨hn0, hn2⟩ := hr
        have htr : 0 ∉ s ∧ totalV s ≤ 1000000000000 := by
          rcases total_range (s := s) with h | h | h
          · exact absurd h ht
          · exact h
          · omega
        have hn1 : number ≤ 1000000000000 := by omega
        have H0 := Lib.hid htr.1
        have ht0 : 0 ≤ totalV s := by omega
        obtain ⟨tv, htv⟩ : ∃ tv, tv = totalV s := ⟨_, rfl⟩
        rw [← htv] at hn2 ht0
        have HT := Lib.hid htv; clear htv ht htr
        go_enter Try.func34, Try.ntmps34
        go_wp2_with fail
        refine (specSizes_any _ _ _ true R D.out).mono ?_; rintro e w1 ⟨rfl, hb1⟩
        go_wp2_with fail
        refine (specTotal_any _ _ _ (rd_below hb1 R) HSZ.out).mono ?_; rw [← HT.out]; rintro e w2 ⟨rfl, hb2⟩
        have hb := hb1.trans (hb2.mono hb1.size)
        go_wp2_with fail
        refine (specAt_any _ _ _ _ (rd_below hb R) HSZ.out H0.out hn0 hn1).mono ?_; rintro e w3 ⟨y, rfl, hs3, hb3⟩
        go_wp2
        go_ret2
        exact ⟨_, rfl, hs3.mono hb.size, hb.trans (hb3.mono hb.size)⟩
      · rw [if_neg hr]
        have ht0 : 0 ≤ totalV s := by
          rcases total_range (s := s) with h | h | h
          · exact absurd h ht
          · by_cases hf : (List.range (s.length + 1)).all (fun j => decide (prodTo s j ≤ M)) = true
            · have h2 := (fits_iff s _).1 hf
              rw [total_fits h.1 h2]
              have := prod_pos HSZ.out h.1 s.length (Nat.le_refl _)
              omega
            · exact absurd (by unfold totalV; rw [if_neg h.1, if_neg hf]) ht
          · omega
        obtain ⟨tv, htv⟩ : ∃ tv, tv = totalV s := ⟨_, rfl⟩
        rw [← htv] at hr ht0
        have HT := Lib.hid htv; clear htv ht
        by_cases hneg : number < 0
        · clear hr
          go_enter Try.func34, Try.ntmps34
          go_wp2_with fail
          refine (specSizes_any _ _ _ true R D.out).mono ?_; rintro e w1 ⟨rfl, hb1⟩
          go_wp2_with fail
          refine (specTotal_any _ _ _ (rd_below hb1 R) HSZ.out).mono ?_; rw [← HT.out]; rintro e w2 ⟨rfl, hb2⟩
          go_wp2
          go_ret2
          exact retLI_nil2 (hb1.trans (hb2.mono hb1.size))
        · have hge : tv ≤ number := by omega
          clear hr
          go_enter Try.func34, Try.ntmps34
          go_wp2_with fail
          refine (specSizes_any _ _ _ true R D.out).mono ?_; rintro e w1 ⟨rfl, hb1⟩
          go_wp2_with fail
          refine (specTotal_any _ _ _ (rd_below hb1 R) HSZ.out).mono ?_; rw [← HT.out]; rintro e w2 ⟨rfl, hb2⟩
          go_wp2
          go_ret2
          exact retLI_nil2 (hb1.trans (hb2.mono hb1.size))
  · have D := Lib.hid (decide_eq_false hs)
    rw [if_neg hs]
    clear hs
    go_enter Try.func34, Try.ntmps34
    go_wp2_with fail
    refine (specSizes_any _ _ _ false R D.out).mono ?_; rintro e w1 ⟨rfl, hb1⟩
    go_wp2
    go_ret2
    exact retLI_nil2 hb1

set_option maxHeartbeats 800000 in
set_option maxRecDepth 100000 in
theorem impl_TupleAt (w : World) (v : Value) (s : List Int) (number : Int) (h : Rd w v s) :
    Calls Try.prog 33 #[v, .int .i64 number] w (RetLI w (fTupleAt s number).1 (fTupleAt s number).2) := by
  unfold fTupleAt
  have R := h
  obtain ⟨a, cap, rfl, hl, hc⟩ := h
  have HC := Lib.hid hc; clear hc
  by_cases hs : SizesP s
  · have D := Lib.hid (decide_eq_true hs)
    have HSZ := Lib.hid hs
    rw [if_pos hs]
    clear hs
    by_cases ht : totalV s = -1
    · rw [if_pos ht]
      have hcv : countV s = (0, false) := by rw [countV, if_pos ht]
      have HCV := Lib.hid hcv; clear hcv ht
      go_enter Try.func33, Try.ntmps33
      go_wp2_with fail
      refine (implSizes_any _ _ _ true R D.out).mono ?_; rintro e w1 ⟨rfl, hb1⟩
      go_wp2_with fail
      refine (implCount_any _ _ _ (rd_below hb1 R) HSZ.out).mono ?_; rw [HCV.out]; rintro e w2 ⟨rfl, hb2⟩
      go_wp2
      go_ret2
      exact retLI_nil2 (hb1.trans (hb2.mono hb1.size))
    · rw [if_neg ht]
      by_cases hr : 0 ≤ number ∧ number < totalV s
      · rw [if_pos hr]
        obtain ⟨hn0, hn2⟩ := hr
        have htr : 0 ∉ s ∧ totalV s ≤ 1000000000000 := by
          rcases total_range (s := s) with h | h | h
          · exact absurd h ht
          · exact h
          · omega
        have hn1 : number ≤ 1000000000000 := by omega
        have H0 := Lib.hid htr.1
        have ht0 : 0 ≤ totalV s := by omega
        have hcv : countV s = (totalV s, true) := by rw [countV, if_neg ht]
        obtain ⟨tv, htv⟩ : ∃ tv, tv = totalV s := ⟨_, rfl⟩
        rw [← htv] at hn2 ht0 hcv
        have HCV := Lib.hid hcv; clear htv ht htr hcv
        go_enter Try.func33, Try.ntmps33
        go_wp2_with fail
        refine (implSizes_any _ _ _ true R D.out).mono ?_; rintro e w1 ⟨rfl, hb1⟩
        go_wp2_with fail
        refine (implCount_any _ _ _ (rd_below hb1 R) HSZ.out).mono ?_; rw [HCV.out]; rintro e w2 ⟨rfl, hb2⟩
        have hb := hb1.trans (hb2.mono hb1.size)
        go_wp2_with (at_make; refine wp_make64 rfl _ _ _ rfl Try.underlying24 .i64 .i64 _ _ s.length rfl rfl rfl rfl hl ?_; intro w3 hs3 hb3 hz3)
        have HS := Lib.hid (hs3.mono hb.size); clear hs3
        have hbx : Below w.heap.size w w3 := hb.trans (hb3.mono hb.size)
        go_loopw [1, 9] (fun c i wr => ∃ (j : Nat) (i' : Int), j ≤ s.length ∧ i = .int .i64 i' ∧ Hid (i' = (j : Int) - 1) ∧ c = .int .i64 (dvF s number (s.length - j)) ∧ Sl wr w.heap.size (.slice (some ⟨w2.heap.size, 0, none⟩) s.length s.length) (List.replicate j 0 ++ outF s number (s.length - j)) ∧ Below w.heap.size w wr) (fun _ i _ => (intOf i + 1).toNat)
        case atStart => exact ⟨s.length, _, Nat.le_refl _, rfl, rfl, by simp [dvF], by simpa [outF] using HS.out, hbx⟩
        case round =>
          obtain ⟨j, i', hj, rfl, hi', rfl, hs, hbel⟩ := hrel
          cases j with
          | zero =>
            obtain rfl : i' = -1 := by have := hi'.out; omega
            have HS2 := Lib.hid hs; clear hs hi'
            go_wp2
            go_ret2
            exact ⟨_, rfl, by simpa [tupAt] using HS2.out, hbel⟩
          | succ q =>
            obtain rfl : i' = (q : Int) := by have := hi'.out; omega
            clear hi'
            obtain ⟨bb, off, rfl, hbs, hcell⟩ := HC.out q (by omega)
            have c1 : wr.cell? ⟨bb, off + q, none⟩ = some (.int .i64 (s.getD q 0)) := (hbel.cell (p := ⟨bb, off + q, none⟩) hbs).trans (hcell q (by omega))
            have hx := size_pos HSZ.out H0.out (k := q) (by omega)
            have hd := dvF_bound HSZ.out H0.out hn0 (s.length - (q + 1)) (by omega)
            have hset := sl_set hs q (dvF s number (s.length - (q + 1)) % s.getD q 0)
            rw [at_fill (by omega)] at hset
            have hstep := dv_step (s := s) (number := number) (q := q) (by omega)
            have c3 := sl_cell hs (j := q) (by simp [outF_len]; omega)
            have c4 := sl_frozen hs q
            have hblk := (sl_lt hs).1
            clear hcell
            obtain ⟨x, hxd⟩ : ∃ x, x = s.getD q 0 := ⟨_, rfl⟩
            obtain ⟨n, hnd⟩ : ∃ n, n = dvF s number (s.length - (q + 1)) := ⟨_, rfl⟩
            rw [← hxd] at c1 hx hset hstep
            rw [← hnd] at hd hset hstep
            rw [← hnd]
            obtain ⟨hx1, hx2⟩ := hx
            obtain ⟨hd1, hd2⟩ := hd
            have hm1 := Int.emod_nonneg n (show x ≠ 0 by omega)
            have hm2 := Int.emod_lt_of_pos n (show 0 < x by omega)
            have hsz := hbel.size
            have cb : wr.cell? ⟨bb, off + q, none⟩ = (wr.setCell ⟨w2.heap.size, q, none⟩ (.int .i64 (n % x))).cell? ⟨bb, off + q, none⟩ := by
              rw [World.cell?_setCell_other]
              intro h
              have h1 : bb = w2.heap.size := (congrArg (fun z : Addr => z.block) h).symm
              omega
            have c5 := cb.symm.trans c1
            have HSET := Lib.hid hset; have HST := Lib.hid hstep; clear hset hstep hs hxd hnd cb
            generalize (List.replicate (q + 1) (0 : Int) ++ outF s number (s.length - (q + 1))).getD q 0 = z at c3
            have i1 : (q : Int) < (s.length : Int) := by omega
            go_wp2
            go_roundw
            case rel => exact ⟨q, _, by omega, rfl, rfl, by rw [HST.out], HSET.out.1, hbel.setCell hblk _⟩
            case measure => first | (simp [intOf]; done) | (simp [intOf]; omega)
      · rw [if_neg hr]
        have ht0 : 0 ≤ totalV s := by
          rcases total_range (s := s) with h | h | h
          · exact absurd h ht
          · by_cases hf : (List.range (s.length + 1)).all (fun j => decide (prodTo s j ≤ M)) = true
            · have h2 := (fits_iff s _).1 hf
              rw [total_fits h.1 h2]
              have := prod_pos HSZ.out h.1 s.length (Nat.le_refl _)
              omega
            · exact absurd (by unfold totalV; rw [if_neg h.1, if_neg hf]) ht
          · omega
        obtain ⟨tv, htv⟩ : ∃ tv, tv = totalV s := ⟨_, rfl⟩
        rw [← htv] at hr ht0
        have hcv : countV s = (tv, true) := by rw [countV, if_neg ht, htv]
        have HCV := Lib.hid hcv; clear htv ht hcv
        by_cases hneg : number < 0
        · clear hr
          go_enter Try.func33, Try.ntmps33
          go_wp2_with fail
          refine (implSizes_any _ _ _ true R D.out).mono ?_; rintro e w1 ⟨rfl, hb1⟩
          go_wp2_with fail
          refine (implCount_any _ _ _ (rd_below hb1 R) HSZ.out).mono ?_; rw [HCV.out]; rintro e w2 ⟨rfl, hb2⟩
          go_wp2
          go_ret2
          exact retLI_nil2 (hb1.trans (hb2.mono hb1.size))
        · have hge : tv ≤ number := by omega
          clear hr
          go_enter Try.func33, Try.ntmps33
          go_wp2_with fail
          refine (implSizes_any _ _ _ true R D.out).mono ?_; rintro e w1 ⟨rfl, hb1⟩
          go_wp2_with fail
          refine (implCount_any _ _ _ (rd_below hb1 R) HSZ.out).mono ?_; rw [HCV.out]; rintro e w2 ⟨rfl, hb2⟩
          go_wp2
          go_ret2
          exact retLI_nil2 (hb1.trans (hb2.mono hb1.size))
  · have D := Lib.hid (decide_eq_false hs)
    rw [if_neg hs]
    clear hs
    go_enter Try.func33, Try.ntmps33
    go_wp2_with fail
    refine (implSizes_any _ _ _ false R D.out).mono ?_; rintro e w1 ⟨rfl, hb1⟩
    go_wp2
    go_ret2
    exact retLI_nil2 hb1

end Go.Proofs.Ytdgffiilalabeaa
