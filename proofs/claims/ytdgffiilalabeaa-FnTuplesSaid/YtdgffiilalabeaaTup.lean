
/- Tuples and their numbers: sizes, their product, the program's and the model's. -/
import Derived.StillTailTactics
import Derived.Test.YtdgffiilalabeaaBase
import Derived.Test.YtdgffiilalabeaaMap
import Derived.Test.YtdgffiilalabeaaIdx
set_option linter.unusedSimpArgs false
set_option linter.unusedVariables false
set_option linter.unusedSectionVars false
namespace Go.Proofs.Ytdgffiilalabeaa
open Go.RowKit

def SizesP (s : List Int) : Prop := ∀ x ∈ s, SizeP x
instance (s : List Int) : Decidable (SizesP s) := inferInstanceAs (Decidable (∀ x ∈ s, _))

theorem sizes_of {s : List Int} (h : ∀ j, j < s.length → SizeP (s.getD j 0)) : SizesP s := fun x hx => by
  obtain ⟨j, hj, rfl⟩ := List.getElem_of_mem hx
  have := h j hj
  simpa [List.getD_eq_getElem?_getD, List.getElem?_eq_getElem hj] using this

set_option maxHeartbeats 400000 in
theorem specSizes_any (w : World) (v : Value) (s : List Int) (b : Bool) (h : Rd w v s) (hb : decide (SizesP s) = b) :
    Calls Try.prog 100 #[v] w (RetB w b) := by
  obtain ⟨a, cap, rfl, hl, hc⟩ := h
  have HC := Lib.hid hc; clear hc
  have HB := Lib.hid hb; clear hb
  go_enter Try.func100, Try.ntmps100
  go_wp2
  go_loopw [3] (fun i wr => ∃ k : Nat, k ≤ s.length ∧ i = .int .i64 k ∧ Hid (∀ j, j < k → SizeP (s.getD j 0)) ∧ Below w.heap.size w wr) (fun i _ => s.length - (intOf i).toNat)
  case atStart => exact ⟨0, Nat.zero_le _, rfl, fun j hj => absurd hj (by omega), Below.refl _ _⟩
  case round =>
    obtain ⟨k, hk, rfl, hall, hbel⟩ := hrel
    by_cases hlt : k < s.length
    · obtain ⟨bb, off, rfl, hbs, hcell⟩ := HC.out k hlt
      have c1 : wr.cell? ⟨bb, off + k, none⟩ = some (.int .i64 (s.getD k 0)) := (hbel.cell (p := ⟨bb, off + k, none⟩) hbs).trans (hcell k hlt)
      clear hcell
      obtain ⟨x, hx⟩ : ∃ x, x = s.getD k 0 := ⟨_, rfl⟩
      rw [← hx] at c1
      have HX := Lib.hid hx; clear hx
      by_cases h0 : SizeP x
      · have D := Lib.hid (decide_eq_true h0); have H0 := Lib.hid h0; clear h0
        go_wp2_with fail
        refine (specSize_any _ _ true D.out).mono ?_; rintro e w1 ⟨rfl, rfl⟩
        go_wp2
        go_roundw
        case rel =>
          refine ⟨k + 1, by omega, by go_num, fun j hj => ?_, hbel⟩
          by_cases hjk : j = k
          · subst hjk; rw [← HX.out]; exact H0.out
          · exact hall.out j (by omega)
        case measure => simp [intOf]; omega
      · have hf : b = false := by
          rw [← HB.out, decide_eq_false_iff_not]
          intro hall'
          exact h0 (by rw [HX.out]; exact hall' _ (mem_getD hlt))
        subst hf
        have D := Lib.hid (decide_eq_false h0); clear h0
        go_wp2_with fail
        refine (specSize_any _ _ false D.out).mono ?_; rintro e w1 ⟨rfl, rfl⟩
        go_wp2
        go_ret
        exact ⟨rfl, hbel⟩
    · obtain rfl : k = s.length := by omega
      have ht : b = true := by
        rw [← HB.out, decide_eq_true_iff]
        exact sizes_of hall.out
      subst ht
      go_wp2
      go_ret
      exact ⟨rfl, hbel⟩

set_option maxHeartbeats 400000 in
theorem implSizes_any (w : World) (v : Value) (s : List Int) (b : Bool) (h : Rd w v s) (hb : decide (SizesP s) = b) :
    Calls Try.prog 98 #[v] w (RetB w b) := by
  obtain ⟨a, cap, rfl, hl, hc⟩ := h
  have HC := Lib.hid hc; clear hc
  have HB := Lib.hid hb; clear hb
  go_enter Try.func98, Try.ntmps98
  go_wp2
  go_loopw [7] (fun i wr => ∃ k : Nat, k ≤ s.length ∧ i = .int .i64 k ∧ Hid (∀ j, j < k → SizeP (s.getD j 0)) ∧ Below w.heap.size w wr) (fun i _ => s.length - (intOf i).toNat)
  case atStart => exact ⟨0, Nat.zero_le _, rfl, fun j hj => absurd hj (by omega), Below.refl _ _⟩
  case round =>
    obtain ⟨k, hk, rfl, hall, hbel⟩ := hrel
    by_cases hlt : k < s.length
    · obtain ⟨bb, off, rfl, hbs, hcell⟩ := HC.out k hlt
      have c1 : wr.cell? ⟨bb, off + k, none⟩ = some (.int .i64 (s.getD k 0)) := (hbel.cell (p := ⟨bb, off + k, none⟩) hbs).trans (hcell k hlt)
      clear hcell
      obtain ⟨x, hx⟩ : ∃ x, x = s.getD k 0 := ⟨_, rfl⟩
      rw [← hx] at c1
      have HX := Lib.hid hx; clear hx
      by_cases h0 : SizeP x
      · have D := Lib.hid (decide_eq_true h0); have H0 := Lib.hid h0; clear h0
        go_wp2_with fail
        refine (implSize_any _ _ true D.out).mono ?_; rintro e w1 ⟨rfl, rfl⟩
        go_wp2
        go_roundw
        case rel =>
          refine ⟨k + 1, by omega, by go_num, fun j hj => ?_, hbel⟩
          by_cases hjk : j = k
          · subst hjk; rw [← HX.out]; exact H0.out
          · exact hall.out j (by omega)
        case measure => simp [intOf]; omega
      · have hf : b = false := by
          rw [← HB.out, decide_eq_false_iff_not]
          intro hall'
          exact h0 (by rw [HX.out]; exact hall' _ (mem_getD hlt))
        subst hf
        have D := Lib.hid (decide_eq_false h0); clear h0
        go_wp2_with fail
        refine (implSize_any _ _ false D.out).mono ?_; rintro e w1 ⟨rfl, rfl⟩
        go_wp2
        go_ret
        exact ⟨rfl, hbel⟩
    · obtain rfl : k = s.length := by omega
      have ht : b = true := by
        rw [← HB.out, decide_eq_true_iff]
        exact sizes_of hall.out
      subst ht
      go_wp2
      go_ret
      exact ⟨rfl, hbel⟩


/-- The product of the first k sizes. -/
def prodTo (s : List Int) : Nat → Int
  | 0 => 1
  | k + 1 => prodTo s k * s.getD k 0
def M : Int := 1000000000000
def FitsTo (s : List Int) (k : Nat) : Prop := ∀ j, j ≤ k → prodTo s j ≤ M
def totalV (s : List Int) : Int := if 0 ∈ s then 0 else if (List.range (s.length + 1)).all (fun j => decide (prodTo s j ≤ M)) then prodTo s s.length else -1

theorem fits_iff (s : List Int) (k : Nat) : (List.range (k + 1)).all (fun j => decide (prodTo s j ≤ M)) = true ↔ FitsTo s k := by
  simp only [List.all_eq_true, List.mem_range, decide_eq_true_eq, FitsTo]
  exact ⟨fun h j hj => h j (by omega), fun h j hj => h j (by omega)⟩

theorem prod_pos {s : List Int} (hs : SizesP s) (h0 : 0 ∉ s) : ∀ k, k ≤ s.length → 1 ≤ prodTo s k := by
  intro k
  induction k with
  | zero => intro _; simp [prodTo]
  | succ k ih =>
    intro hk
    have h1 := ih (by omega)
    have hm := mem_getD (xs := s) (k := k) (by omega)
    have h2 := hs _ hm
    have h3 : s.getD k 0 ≠ 0 := fun e => h0 (by rw [← e]; exact hm)
    have h4 : 1 ≤ s.getD k 0 := by have := h2.1; omega
    simp only [prodTo]
    have := Int.mul_le_mul h1 h4 (by omega) (by omega)
    omega

theorem total_zero {s : List Int} (h : 0 ∈ s) : totalV s = 0 := by unfold totalV; rw [if_pos h]
theorem total_fits {s : List Int} (h : 0 ∉ s) (hf : FitsTo s s.length) : totalV s = prodTo s s.length := by
  unfold totalV; rw [if_neg h, if_pos ((fits_iff s _).2 hf)]
theorem total_big {s : List Int} (h : 0 ∉ s) {k : Nat} (hk : k ≤ s.length) (hb : M < prodTo s k) : totalV s = -1 := by
  unfold totalV
  rw [if_neg h, if_neg]
  intro hf
  have := (fits_iff s _).1 hf k hk
  omega

theorem fits_zero (s : List Int) : FitsTo s 0 := fun j hj => by
  obtain rfl : j = 0 := by omega
  simp [prodTo, M]

theorem fits_succ {s : List Int} {k : Nat} (h : FitsTo s k) (h1 : prodTo s (k + 1) ≤ M) : FitsTo s (k + 1) := fun j hj => by
  by_cases hjk : j = k + 1
  · subst hjk; exact h1
  · exact h j (by omega)

theorem mul_bound {n x : Int} (h0 : 1 ≤ n) (h1 : n ≤ 1000000000000) (h2 : 1 ≤ x) (h3 : x ≤ 256) : 1 ≤ n * x ∧ n * x ≤ 256000000000000 := by
  have a := Int.mul_le_mul h0 h2 (by omega) (by omega)
  have b := Int.mul_le_mul h1 h3 (by omega) (by omega)
  omega

set_option maxHeartbeats 800000 in
set_option maxRecDepth 100000 in
theorem specTotal_any (w : World) (v : Value) (s : List Int) (h : Rd w v s) (hs : SizesP s) :
    Calls Try.prog 96 #[v] w (RetI w (totalV s)) := by
  obtain ⟨a, cap, rfl, hl, hc⟩ := h
  have HC := Lib.hid hc; clear hc
  have HSZ := Lib.hid hs; clear hs
  go_enter Try.func96, Try.ntmps96
  go_wp2
  go_loopw [3] (fun i wr => ∃ k : Nat, k ≤ s.length ∧ i = .int .i64 k ∧ Hid (∀ j, j < k → s.getD j 0 ≠ 0) ∧ Below w.heap.size w wr) (fun i _ => s.length - (intOf i).toNat)
  case atStart => exact ⟨0, Nat.zero_le _, rfl, fun j hj => absurd hj (by omega), Below.refl _ _⟩
  case round =>
    obtain ⟨k, hk, rfl, hall, hbel⟩ := hrel
    by_cases hlt : k < s.length
    · obtain ⟨bb, off, rfl, hbs, hcell⟩ := HC.out k hlt
      have c1 : wr.cell? ⟨bb, off + k, none⟩ = some (.int .i64 (s.getD k 0)) := (hbel.cell (p := ⟨bb, off + k, none⟩) hbs).trans (hcell k hlt)
      clear hcell
      obtain ⟨x, hx⟩ : ∃ x, x = s.getD k 0 := ⟨_, rfl⟩
      rw [← hx] at c1
      by_cases h0 : x = 0
      · have hf := total_zero (s := s) (by rw [← h0, hx]; exact mem_getD hlt)
        have HF := Lib.hid hf; clear hf hx
        have ht : (x == 0) = true := by simpa using h0
        clear h0
        go_wp2
        go_ret
        exact ⟨ret_i HF.out.symm, hbel⟩
      · have ht : (x == 0) = false := by simpa using h0
        have HX := Lib.hid hx; have H0 := Lib.hid h0; clear hx h0
        go_wp2
        go_roundw
        case rel =>
          refine ⟨k + 1, by omega, by go_num, fun j hj => ?_, hbel⟩
          by_cases hjk : j = k
          · subst hjk; rw [← HX.out]; exact H0.out
          · exact hall.out j (by omega)
        case measure => simp [intOf]; omega
    · obtain rfl : k = s.length := by omega
      have h0 : 0 ∉ s := not_mem_of hall.out
      have H0 := Lib.hid h0; clear h0
      have HB := Lib.hid hbel; clear hbel
      go_wp2
      go_loopw [4, 5] (fun c i wr => ∃ k : Nat, k ≤ s.length ∧ i = .int .i64 k ∧ c = .int .i64 (prodTo s k) ∧ Hid (FitsTo s k) ∧ Below w.heap.size w wr) (fun _ i _ => s.length - (intOf i).toNat)
      case atStart => exact ⟨0, Nat.zero_le _, rfl, rfl, fits_zero s, HB.out⟩
      case round =>
        obtain ⟨k, hk, rfl, rfl, hfit, hbel⟩ := hrel
        by_cases hlt : k < s.length
        · obtain ⟨bb, off, rfl, hbs, hcell⟩ := HC.out k hlt
          have c1 : wr.cell? ⟨bb, off + k, none⟩ = some (.int .i64 (s.getD k 0)) := (hbel.cell (p := ⟨bb, off + k, none⟩) hbs).trans (hcell k hlt)
          clear hcell
          have hp := prod_pos HSZ.out H0.out k (by omega)
          have hp2 : prodTo s k ≤ 1000000000000 := hfit.out k (Nat.le_refl _)
          have hm := mem_getD hlt
          have hx2 := (HSZ.out _ hm).2
          have hx1 : 1 ≤ s.getD k 0 := by
            have h3 : s.getD k 0 ≠ 0 := fun e => H0.out (by rw [← e]; exact hm)
            have := (HSZ.out _ hm).1
            omega
          have hsucc : prodTo s (k + 1) = prodTo s k * s.getD k 0 := rfl
          obtain ⟨x, hx⟩ : ∃ x, x = s.getD k 0 := ⟨_, rfl⟩
          obtain ⟨n, hnd⟩ : ∃ n, n = prodTo s k := ⟨_, rfl⟩
          rw [← hx] at c1 hsucc hx1 hx2
          rw [← hnd] at hp hp2 hsucc
          rw [← hnd]
          have hmb := mul_bound hp hp2 hx1 hx2
          by_cases hbig : (1000000000000 : Int) < n * x
          · have hf := total_big (k := k + 1) H0.out (by omega) (by rw [hsucc]; exact hbig)
            have hd : (1000000000000 : Int) / x < n := by rw [Int.ediv_lt_iff_lt_mul (by omega)]; exact hbig
            have HF := Lib.hid hf; clear hf hsucc hmb hm hx hnd hbig
            go_wp2
            go_ret
            exact ⟨ret_i HF.out.symm, hbel⟩
          · have hd : ¬ (1000000000000 : Int) / x < n := by rw [Int.ediv_lt_iff_lt_mul (by omega)]; exact hbig
            have HFIT := Lib.hid (fits_succ hfit.out (by rw [hsucc]; unfold M; omega))
            have HSUCC := Lib.hid hsucc
            have hwr : IntKind.i64.wrap (n * x) = n * x := IntWalk.i64_in _ (by omega)
            have hwr2 : wrap64 (n * x) = n * x := IntWalk.wrap64_in _ (by omega)
            clear hsucc hm hx hnd hbig hfit
            go_wp2
            go_roundw
            case rel => exact ⟨k + 1, by omega, by go_num, by rw [HSUCC.out], HFIT, hbel⟩
            case measure => simp [intOf]; omega
        · obtain rfl : k = s.length := by omega
          have hf := total_fits H0.out hfit.out
          have HF := Lib.hid hf; clear hf
          go_wp2
          go_ret
          exact ⟨ret_i HF.out.symm, hbel⟩

set_option maxHeartbeats 400000 in
theorem libIndex_any (w : World) (v : Value) (l : List Int) (x : Int) (h : Rd w v l) :
    Calls Try.prog 166 #[v, .int .i64 x] w (RetI w (idxI l x)) := by
  obtain ⟨a, cap, rfl, hl, hc⟩ := h
  have HC := Lib.hid hc; clear hc
  go_enter Try.func166, Try.ntmps166
  go_wp2
  go_loopw [8] (fun i wr => ∃ k : Nat, k ≤ l.length ∧ i = .int .i64 k ∧ Hid (∀ j, j < k → l.getD j 0 ≠ x) ∧ Below w.heap.size w wr) (fun i _ => l.length - (intOf i).toNat)
  case atStart => exact ⟨0, Nat.zero_le _, rfl, fun j hj => absurd hj (by omega), Below.refl _ _⟩
  case round =>
    obtain ⟨k, hk, rfl, hall, hbel⟩ := hrel
    by_cases hlt : k < l.length
    · obtain ⟨bb, off, rfl, hbs, hcell⟩ := HC.out k hlt
      have c1 : wr.cell? ⟨bb, off + k, none⟩ = some (.int .i64 (l.getD k 0)) := (hbel.cell (p := ⟨bb, off + k, none⟩) hbs).trans (hcell k hlt)
      clear hcell
      obtain ⟨y, hy⟩ : ∃ y, y = l.getD k 0 := ⟨_, rfl⟩
      rw [← hy] at c1
      have HY := Lib.hid hy; clear hy
      by_cases hxy : y = x
      · have hf : idxI l x = k := by
          have h1 : l.getD k 0 = x := by rw [← HY.out]; exact hxy
          rw [idxI, if_pos (mem_of_getD hlt h1), idx_hit hlt h1 hall.out]
        have HF := Lib.hid hf; clear hf
        have ht : (x == y) = true := by simpa using hxy.symm
        clear hxy
        go_wp2
        go_ret
        exact ⟨ret_i HF.out.symm, hbel⟩
      · have ht : (x == y) = false := by simpa using fun e : x = y => hxy e.symm
        have HN := Lib.hid hxy; clear hxy
        go_wp2
        go_roundw
        case rel =>
          refine ⟨k + 1, by omega, by go_num, fun j hj => ?_, hbel⟩
          by_cases hjk : j = k
          · subst hjk; rw [← HY.out]; exact HN.out
          · exact hall.out j (by omega)
        case measure => simp [intOf]; omega
    · obtain rfl : k = l.length := by omega
      have hf : idxI l x = -1 := by rw [idxI, if_neg (not_mem_of hall.out)]
      have HF := Lib.hid hf; clear hf
      go_wp2
      go_ret
      exact ⟨ret_i HF.out.symm, hbel⟩


theorem libContains_any (w : World) (v : Value) (l : List Int) (x : Int) (b : Bool) (h : Rd w v l) (hb : decide (x ∈ l) = b) :
    Calls Try.prog 129 #[v, .int .i64 x] w (RetB w b) := by
  by_cases hx : x ∈ l
  · obtain rfl := bT hb hx
    have hi : idxI l x = (l.idxOf x : Int) := by rw [idxI, if_pos hx]
    obtain ⟨q, hq⟩ : ∃ q : Nat, q = l.idxOf x := ⟨_, rfl⟩
    rw [← hq] at hi
    have HI := Lib.hid hi; clear hi hq hx hb
    go_enter Try.func129, Try.ntmps129
    go_wp2_with fail
    refine (libIndex_any _ _ l x h).mono ?_; rw [HI.out]; rintro e w1 ⟨rfl, hb1⟩
    go_wp2
    go_ret
    exact ⟨rfl, hb1⟩
  · obtain rfl := bF hb hx
    have hi : idxI l x = -1 := by rw [idxI, if_neg hx]
    have HI := Lib.hid hi; clear hi hx hb
    go_enter Try.func129, Try.ntmps129
    go_wp2_with fail
    refine (libIndex_any _ _ l x h).mono ?_; rw [HI.out]; rintro e w1 ⟨rfl, hb1⟩
    go_wp2
    go_ret
    exact ⟨rfl, hb1⟩

/-- The number of tuples, or that there are too many. -/
def countV (s : List Int) : Int × Bool := if totalV s = -1 then (0, false) else (totalV s, true)

theorem count_zero {s : List Int} (h : 0 ∈ s) : countV s = (0, true) := by simp [countV, total_zero h]

set_option maxHeartbeats 800000 in
set_option maxRecDepth 100000 in
theorem implCount_any (w : World) (v : Value) (s : List Int) (h : Rd w v s) (hs : SizesP s) :
    Calls Try.prog 99 #[v] w (fun e w' => e = .returned (.tuple #[.int .i64 (countV s).1, .bool (countV s).2]) ∧ Below w.heap.size w w') := by
  have R := h
  obtain ⟨a, cap, rfl, hl, hc⟩ := h
  have HC := Lib.hid hc; clear hc
  have HSZ := Lib.hid hs; clear hs
  by_cases h0 : 0 ∈ s
  · rw [count_zero h0]
    have D := Lib.hid (decide_eq_true h0); clear h0
    go_enter Try.func99, Try.ntmps99
    go_wp2_with fail
    refine (libContains_any _ _ s 0 true R D.out).mono ?_; rintro e w1 ⟨rfl, hb1⟩
    go_wp2
    go_ret2
    exact ⟨rfl, hb1⟩
  · have D := Lib.hid (decide_eq_false h0)
    have H0 := Lib.hid h0; clear h0
    obtain ⟨cv, hcv⟩ : ∃ cv, cv = countV s := ⟨_, rfl⟩
    rw [← hcv]
    have HCV := Lib.hid hcv; clear hcv
    go_enter Try.func99, Try.ntmps99
    go_wp2_with fail
    refine (libContains_any _ _ s 0 false R D.out).mono ?_; rintro e w1 ⟨rfl, hb1⟩
    go_wp2
    go_loopw [4, 11] (fun c i wr => ∃ k : Nat, k ≤ s.length ∧ i = .int .i64 k ∧ c = .int .i64 (prodTo s k) ∧ Hid (FitsTo s k) ∧ Below w.heap.size w wr) (fun _ i _ => s.length - (intOf i).toNat)
    case atStart => exact ⟨0, Nat.zero_le _, rfl, rfl, fits_zero s, hb1⟩
    case round =>
      obtain ⟨k, hk, rfl, rfl, hfit, hbel⟩ := hrel
      by_cases hlt : k < s.length
      · obtain ⟨bb, off, rfl, hbs, hcell⟩ := HC.out k hlt
        have c1 : wr.cell? ⟨bb, off + k, none⟩ = some (.int .i64 (s.getD k 0)) := (hbel.cell (p := ⟨bb, off + k, none⟩) hbs).trans (hcell k hlt)
        clear hcell
        have hp := prod_pos HSZ.out H0.out k (by omega)
        have hp2 : prodTo s k ≤ 1000000000000 := hfit.out k (Nat.le_refl _)
        have hm := mem_getD hlt
        have hx2 := (HSZ.out _ hm).2
        have hx1 : 1 ≤ s.getD k 0 := by
          have h3 : s.getD k 0 ≠ 0 := fun e => H0.out (by rw [← e]; exact hm)
          have := (HSZ.out _ hm).1
          omega
        have hsucc : prodTo s (k + 1) = prodTo s k * s.getD k 0 := rfl
        obtain ⟨x, hx⟩ : ∃ x, x = s.getD k 0 := ⟨_, rfl⟩
        obtain ⟨n, hnd⟩ : ∃ n, n = prodTo s k := ⟨_, rfl⟩
        rw [← hx] at c1 hsucc hx1 hx2
        rw [← hnd] at hp hp2 hsucc
        rw [← hnd]
        have hmb := mul_bound hp hp2 hx1 hx2
        have hwr : IntKind.i64.wrap (n * x) = n * x := IntWalk.i64_in _ (by omega)
        have hwr2 : wrap64 (n * x) = n * x := IntWalk.wrap64_in _ (by omega)
        obtain ⟨y, hy⟩ : ∃ y, y = n * x := ⟨_, rfl⟩
        rw [← hy] at hsucc hmb
        by_cases hbig : (1000000000000 : Int) < y
        · have hf := total_big (k := k + 1) H0.out (by omega) (by rw [hsucc]; exact hbig)
          have hcv2 : cv = (0, false) := by rw [HCV.out, countV, if_pos hf]
          subst hcv2
          clear hf hsucc hm hx hnd
          rw [← hy] at hwr hwr2
          have hy' := hy.symm; clear hy
          go_wp2
          go_ret2
          exact ⟨rfl, hbel⟩
        · have HFIT := Lib.hid (fits_succ hfit.out (by rw [hsucc]; unfold M; omega))
          have HSUCC := Lib.hid hsucc
          clear hsucc hm hx hnd hfit
          rw [← hy] at hwr hwr2
          have hy' := hy.symm; clear hy
          go_wp2
          go_roundw
          case rel => exact ⟨k + 1, by omega, by go_num, by rw [HSUCC.out], HFIT, hbel⟩
          case measure => simp [intOf]; omega
      · obtain rfl : k = s.length := by omega
        have hf := total_fits H0.out hfit.out
        have hp := prod_pos HSZ.out H0.out s.length (Nat.le_refl _)
        have hcv2 : cv = (prodTo s s.length, true) := by rw [HCV.out, countV, if_neg (by rw [hf]; omega), hf]
        subst hcv2
        clear hf hp
        go_wp2
        go_ret2
        exact ⟨rfl, hbel⟩

end Go.Proofs.Ytdgffiilalabeaa
