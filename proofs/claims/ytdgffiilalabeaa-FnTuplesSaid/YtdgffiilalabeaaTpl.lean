
/- The law of tuples on drawn codes: a tuple's number is its place in the ascending list: its walk. -/
import Derived.Test.YtdgffiilalabeaaEql
import Derived.Test.YtdgffiilalabeaaTupNum
set_option linter.unusedSimpArgs false
set_option linter.unusedVariables false
set_option linter.unusedSectionVars false
namespace Go.Proofs.Ytdgffiilalabeaa
open Go.RowKit


/-! ### Numbers of tuples -/
/-- The number of the first k of a tuple. -/
def pr (s : List Int) (n : Int) (k : Nat) : Int := dvF s n (s.length - k)
theorem outF_at (s : List Int) (n : Int) : ∀ m i : Nat, i < m → (outF s n m).getD i 0 = dvF s n (m - 1 - i) % s.getD (s.length - 1 - (m - 1 - i)) 0
  | 0, i, h => absurd h (by omega)
  | m + 1, 0, _ => by simp [outF]
  | m + 1, i + 1, h => by
    have := outF_at s n m i (by omega)
    simp only [outF, List.getD_cons_succ, this]
    rw [show m + 1 - 1 - (i + 1) = m - 1 - i from by omega]
theorem tup_at {s : List Int} {n : Int} {q : Nat} (hq : q < s.length) : (tupAt s n).getD q 0 = pr s n (q + 1) % s.getD q 0 := by
  unfold tupAt pr
  rw [outF_at s n s.length q hq, show s.length - 1 - (s.length - 1 - q) = q from by omega, show s.length - 1 - q = s.length - (q + 1) from by omega]
theorem pr_succ {s : List Int} {n : Int} {q : Nat} (hq : q < s.length) : pr s n (q + 1) = pr s n q * s.getD q 0 + (tupAt s n).getD q 0 := by
  rw [tup_at hq]
  unfold pr
  rw [dv_step hq, Int.mul_comm]
  exact (Int.mul_ediv_add_emod _ _).symm
theorem pr_lt {s : List Int} {n : Int} (hs : SizesP s) (h0 : 0 ∉ s) (hn : n < prodTo s s.length) : ∀ m q : Nat, q + m = s.length → pr s n q < prodTo s q
  | 0, q, h => by
    obtain rfl : q = s.length := by omega
    unfold pr
    rw [Nat.sub_self]
    exact hn
  | m + 1, q, h => by
    have ih := pr_lt hs h0 hn m (q + 1) (by omega)
    have hp := size_pos hs h0 (k := q) (by omega)
    unfold pr at ih ⊢
    rw [dv_step (by omega)]
    rw [Int.ediv_lt_iff_lt_mul (by omega)]
    exact ih
theorem pr_zero {s : List Int} {n : Int} (hs : SizesP s) (h0 : 0 ∉ s) (hn0 : 0 ≤ n) (hn : n < prodTo s s.length) : pr s n 0 = 0 := by
  have h1 := pr_lt hs h0 hn s.length 0 (by omega)
  have h2 := (dvF_bound hs h0 hn0 s.length (Nat.le_refl _)).1
  have h3 : prodTo s 0 = 1 := rfl
  have h4 : pr s n 0 = dvF s n s.length := rfl
  omega
theorem pr_len (s : List Int) (n : Int) : pr s n s.length = n := by unfold pr; rw [Nat.sub_self]; rfl
theorem num_pr {s : List Int} {n : Int} (hs : SizesP s) (h0 : 0 ∉ s) (hn0 : 0 ≤ n) (hn : n < prodTo s s.length) : ∀ k, k ≤ s.length → numTo s (tupAt s n) k = pr s n k
  | 0, _ => by rw [pr_zero hs h0 hn0 hn]; rfl
  | k + 1, h => by
    have ih := num_pr hs h0 hn0 hn k (by omega)
    rw [pr_succ (by omega), ← ih]
    rfl
theorem dvF_mono {s : List Int} (hs : SizesP s) (h0 : 0 ∉ s) {n m : Int} (h : n ≤ m) : ∀ k, k ≤ s.length → dvF s n k ≤ dvF s m k
  | 0, _ => h
  | k + 1, hk => by
    have ih := dvF_mono hs h0 h k (by omega)
    have hp := size_pos hs h0 (k := s.length - 1 - k) (by omega)
    simp only [dvF]
    exact Int.ediv_le_ediv (by omega) ih
theorem tup_len (s : List Int) (n : Int) : (tupAt s n).length = s.length := outF_len _ _ _
theorem tup_ok {s : List Int} {n : Int} (hs : SizesP s) (h0 : 0 ∉ s) : TupP s (tupAt s n) := by
  refine ⟨(tup_len s n).symm, fun j hj => ?_⟩
  rw [tup_len] at hj
  rw [tup_at hj]
  have hp := size_pos hs h0 hj
  exact ⟨Int.emod_nonneg _ (by omega), Int.emod_lt_of_pos _ (by omega)⟩
theorem num_same {s t u : List Int} : ∀ k, (∀ j : Nat, j < k → t.getD j 0 = u.getD j 0) → numTo s t k = numTo s u k
  | 0, _ => rfl
  | k + 1, h => by
    simp only [numTo]
    rw [num_same k (fun j hj => h j (by omega)), h k (by omega)]
theorem tup_next {s : List Int} {n : Int} (hs : SizesP s) (h0 : 0 ∉ s) (hn0 : 0 ≤ n) (hn : n + 1 < prodTo s s.length) :
    (∀ i : Nat, i < s.length → (∀ j : Nat, j < i → (tupAt s n).getD j 0 = (tupAt s (n + 1)).getD j 0) → (tupAt s n).getD i 0 ≤ (tupAt s (n + 1)).getD i 0) ∧ ¬ ∀ j : Nat, j < s.length → (tupAt s n).getD j 0 = (tupAt s (n + 1)).getD j 0 := by
  have a := num_pr hs h0 hn0 (by omega)
  have b := num_pr hs h0 (n := n + 1) (by omega) hn
  refine ⟨fun i hi h => ?_, fun h => ?_⟩
  · have h1 := num_same (s := s) i h
    rw [a i (by omega), b i (by omega)] at h1
    have h2 := pr_succ (s := s) (n := n) hi
    have h3 := pr_succ (s := s) (n := n + 1) hi
    rw [← h1] at h3
    have h4 : pr s n (i + 1) ≤ pr s (n + 1) (i + 1) := dvF_mono hs h0 (by omega) _ (by omega)
    omega
  · have h1 := num_same (s := s) s.length h
    rw [a _ (Nat.le_refl _), b _ (Nat.le_refl _), pr_len, pr_len] at h1
    omega
theorem tup_law {s t u : List Int} {n r : Int} (h : fTupleAt s n = (t, 0)) (hu : fTupleAt s (n + 1) = (u, r)) : 0 ≤ n ∧ n < 1000000000000 ∧ t.length = s.length ∧ fTupleNumber s t = (n, 0) ∧ (r ≠ 0 → r = 4) ∧
    (r = 0 → u.length = t.length ∧ (∀ i : Nat, i < t.length → (∀ j : Nat, j < i → at0 t (j : Int) = at0 u (j : Int)) → at0 t (i : Int) ≤ at0 u (i : Int)) ∧ ¬ ∀ j : Nat, j < t.length → at0 t (j : Int) = at0 u (j : Int)) := by
  unfold fTupleAt at h hu
  by_cases hs : SizesP s
  · rw [if_pos hs] at h hu
    by_cases ht : totalV s = -1
    · rw [if_pos ht] at h; simp only [Prod.mk.injEq] at h; omega
    · rw [if_neg ht] at h hu
      by_cases hn : 0 ≤ n ∧ n < totalV s
      · rw [if_pos hn] at h
        simp only [Prod.mk.injEq] at h
        obtain ⟨rfl, _⟩ := h
        have h0 : 0 ∉ s := fun hm => by have := total_zero hm; omega
        have hok := tup_ok (n := n) hs h0
        have hf := tup_fits hok ht
        have hM := hf.1 s.length (Nat.le_refl _)
        have hM2 : M = 1000000000000 := rfl
        refine ⟨hn.1, by omega, tup_len s n, ?_, ?_, ?_⟩
        · unfold fTupleNumber
          rw [if_pos hs, if_pos hok, if_neg ht, tup_len, num_pr hs h0 hn.1 (by omega) _ (Nat.le_refl _), pr_len]
        · intro hr
          by_cases h1 : 0 ≤ n + 1 ∧ n + 1 < totalV s
          · rw [if_pos h1] at hu; simp only [Prod.mk.injEq] at hu; exact absurd hu.2.symm hr
          · rw [if_neg h1] at hu; simp only [Prod.mk.injEq] at hu; exact hu.2.symm
        · intro hr
          by_cases h1 : 0 ≤ n + 1 ∧ n + 1 < totalV s
          · rw [if_pos h1] at hu; simp only [Prod.mk.injEq] at hu
            obtain ⟨rfl, _⟩ := hu
            have hx := tup_next hs h0 hn.1 (by omega)
            refine ⟨by rw [tup_len, tup_len], ?_, ?_⟩
            · intro i hi hj
              rw [tup_len] at hi
              simp only [at0_nat] at hj ⊢
              exact hx.1 i hi hj
            · intro hj
              rw [tup_len] at hj
              simp only [at0_nat] at hj
              exact hx.2 hj
          · rw [if_neg h1] at hu; simp only [Prod.mk.injEq] at hu; omega
      · rw [if_neg hn] at h; simp only [Prod.mk.injEq] at h; omega
  · rw [if_neg hs] at h; simp only [Prod.mk.injEq] at h; omega


/-! ### The draws -/
theorem wp_appRd {wr : World} {ops : Array Oper} {rest : List Oper} {o : Oper} {a : Act} {Q : Exit → Act → World → Prop}
    (hg : o.guard = none) (s xo : Operand) (t : TypeId) (ho : o.op = .call { callee := .builtin .append, args := #[s, xo], argTypes := #[t, t] }) (ht : Try.prog.underlying t = some (.slice 2))
    {base g cap : Nat} {v : Value} {xs ys : List Int} (hs : Sl wr base v xs) (hu : Rd wr (.slice (some ⟨g, 0, none⟩) ys.length cap) ys) (hv : a.eval s = v) (hx : a.eval xo = .slice (some ⟨g, 0, none⟩) ys.length cap)
    (hn : xs.length + ys.length ≤ 17592186044415) (hbase : base ≤ wr.heap.size)
    (hK : ∀ v' w', Sl w' base v' (xs ++ ys) → wr.grownBy w' v.ownBlock → wpList Try.prog ops Q rest (a.put o.dst v') w') :
    wpList Try.prog ops Q (o :: rest) a wr := by
  obtain ⟨i, hi, hz, hs1, hb⟩ := info_parts info64
  obtain ⟨a', c', he, _, hc⟩ := hu
  simp only [Value.slice.injEq] at he
  obtain ⟨rfl, _, rfl⟩ := he
  refine wpList_append_own_at (P := Try.prog) wr hg s xo t ho base 2 i (.int .i64 0) 1 8 ht hi hz hs1 hb rfl (by decide) v xs.length (xs.map (Value.int .i64)) hv hs.1 ⟨g, 0, none⟩ ys.length cap (ys.map (Value.int .i64)) hx (by simp) (fun j u hj => ?_) (by simp [Value.oneCell']) (by unfold maxLen; omega) (by omega) hbase ?_
  · have hj2 : j < ys.length := by
      have := (List.getElem?_eq_some_iff.1 hj).1
      simpa using this
    obtain ⟨b, off, ha, _, hcell⟩ := hc j hj2
    simp only [Option.some.injEq, Addr.mk.injEq] at ha
    obtain ⟨rfl, rfl, _⟩ := ha
    have h1 := hcell j hj2
    simp only [List.getElem?_map, List.getElem?_eq_getElem hj2, Option.map_some, Option.some.injEq] at hj
    rw [Addr.add_lit, ← hj]
    simpa [List.getD_eq_getElem?_getD, List.getElem?_eq_getElem hj2] using h1
  · intro v' w' hown hgrow _ _
    exact hK v' w' ⟨by simpa using hown, by simpa using hn⟩ hgrow
theorem lit5 (w : World) (x y z t u : Int) : Sl (w.alloc (.cells #[.int .i64 x, .int .i64 y, .int .i64 z, .int .i64 t, .int .i64 u] 2)) w.heap.size (.slice (some ⟨w.heap.size, 0, none⟩) 5 5) [x, y, z, t, u] :=
  ⟨World.ownsRow_lit w #[.int .i64 x, .int .i64 y, .int .i64 z, .int .i64 t, .int .i64 u] 5 (Nat.le_refl _) (by decide) rfl, by simp⟩
def AnyP (xs : List Int) : Prop := ∀ x ∈ xs, -1 ≤ x ∧ x ≤ 257
theorem any_snoc {xs ys : List Int} (h : AnyP xs) (h' : AnyP ys) : AnyP (xs ++ ys) := fun z hz => (List.mem_append.1 hz).elim (h z) (h' z)
theorem any_one {y : Int} (h : -1 ≤ y ∧ y ≤ 257) : AnyP [y] := fun z hz => by rw [List.mem_singleton.1 hz]; exact h
set_option maxHeartbeats 800000 in
set_option maxRecDepth 100000 in
theorem drawSizes_any (w : World) (g : Nat) (v : Value) (h : Src w g v) :
    Calls Try.prog 95 #[v] w (fun e w' => ∃ (xs : List Int) (y : Value), e = .returned y ∧ Sl w' w.heap.size y xs ∧ xs.length ≤ 10 ∧ AnyP xs ∧ Src w' g v ∧ w.grownBy w' (some g)) := by
  have hgw := h.lt
  go_enter Try.func95, Try.ntmps95
  go_wp2_with fail
  refine (next_any _ g _ _ (h.alloc _) (by omega)).mono ?_; rintro e w1 ⟨r, rfl, hr0, hr1, hs1, hgr1⟩
  have hE : Sl w1 w.heap.size (.slice (some ⟨w.heap.size, 0, none⟩) 0 0) [] := sl_kept (sl_empty w) hgr1 (.inr (not_own (sl_empty w) hgw))
  have hga := grown_alloc hgr1
  obtain ⟨j0, rfl⟩ := Int.eq_ofNat_of_zero_le hr0
  have hj0 : j0 ≤ 4 := by omega
  clear hr1 hr0 hgr1 h
  go_wp2
  go_loopw [3, 4] (fun u i wr => ∃ (j : Nat) (xs : List Int), j ≤ 4 ∧ i = .int .i64 j ∧ xs.length + j ≤ 4 ∧ AnyP xs ∧ Sl wr w.heap.size u xs ∧ Src wr g v ∧ w.grownBy wr (some g)) (fun _ i _ => (intOf i).toNat)
  case atStart => exact ⟨j0, [], hj0, rfl, by simpa using hj0, fun x hx => absurd hx (by simp), hE, hs1, hga⟩
  case round =>
    obtain ⟨j, xs, hj, rfl, hlen, hall, hs, hsrc, hgr⟩ := hrel
    have HA := Lib.hid hall; clear hall
    clear hE hs1 hga
    by_cases hp : 0 < j
    · go_wp2_with fail
      all_goals
        refine (next_any _ g _ _ hsrc (by omega)).mono ?_; rintro e w2 ⟨r, rfl, hr0, hr1, hs1, hgr1⟩
        have hx1 := sl_kept hs hgr1 (.inr (not_own hs hgw))
        have hga := grown_trans hgr hgr1
        have hbd : r ≤ 3 := by omega
        go_wp2_with (at_builtin; refine wp_app64 rfl _ _ _ rfl Try.underlying24 (1 + r) hx1 rfl rfl (by omega) hga.size ?_; intro v1 w3 hx3 hg3)
        go_roundw
        case rel => exact ⟨j - 1, _, by omega, by go_num, by simp; omega, any_snoc HA.out (any_one (by omega)), hx3, hs1.keep ((Below.refl (g + 1) _).grown hg3 hs1.lt fun j hj => by have := (hx1.1.lt j hj).1; omega), grown_mix hga hx1 hg3⟩
        case measure => simp [intOf]; omega
    · obtain rfl : j = 0 := by omega
      go_wp2_with fail
      refine (next_any _ g _ _ hsrc (by omega)).mono ?_; rintro e w2 ⟨r, rfl, hr0, hr1, hs1, hgr1⟩
      have hx1 := sl_kept hs hgr1 (.inr (not_own hs hgw))
      have hga := grown_trans hgr hgr1
      clear hs hsrc hgr
      by_cases hr : r = 0
      · subst hr
        go_wp2_with fail
        have hL := lit4 w2 0 (-1) 257 256
        refine (pick_any _ g _ _ _ (hs1.alloc _) hL.rd (by simp) (not_own hL hs1.lt)).mono ?_; rintro e w3 ⟨r2, rfl, hr2, hs2, hgr2⟩
        have hx2 := sl_kept (sl_alloc hx1 _) hgr2 (.inr (not_own hx1 hgw))
        have hgb := grown_trans hga (grown_alloc hgr2)
        have hb2 : -1 ≤ r2 ∧ r2 ≤ 257 := by simp at hr2; omega
        go_wp2_with (at_builtin; refine wp_app64 rfl _ _ _ rfl Try.underlying24 r2 hx2 rfl rfl (by omega) hgb.size ?_; intro v1 w4 hx3 hg3)
        go_ret
        exact ⟨_, _, rfl, hx3, by simp; omega, any_snoc HA.out (any_one hb2), hs2.keep ((Below.refl (g + 1) _).grown hg3 hs2.lt fun j hj => by have := (hx2.1.lt j hj).1; omega), grown_mix hgb hx2 hg3⟩
      · have hr2 : (r == 0) = false := by simpa using hr
        by_cases hq : r = 1
        · subst hq
          have hL := (lit5 w2 256 256 256 256 256).rd
          have hx2 := sl_alloc hx1 (.cells #[.int .i64 256, .int .i64 256, .int .i64 256, .int .i64 256, .int .i64 256] 2)
          have hs2 := hs1.alloc (.cells #[.int .i64 256, .int .i64 256, .int .i64 256, .int .i64 256, .int .i64 256] 2)
          have hgb := grown_trans hga (World.grownBy_alloc w2 (.cells #[.int .i64 256, .int .i64 256, .int .i64 256, .int .i64 256, .int .i64 256] 2) (some g))
          go_wp2_with (at_builtin; refine wp_appRd (ys := [256, 256, 256, 256, 256]) rfl _ _ _ rfl Try.underlying24 hx2 hL rfl rfl (show xs.length + 5 ≤ 17592186044415 by omega) hgb.size ?_; intro v1 w4 hx3 hg3)
          go_ret
          exact ⟨_, _, rfl, hx3, by simp; omega, any_snoc HA.out (fun z hz => by simp at hz; omega), hs2.keep ((Below.refl (g + 1) _).grown hg3 hs2.lt fun j hj => by have := (hx2.1.lt j hj).1; omega), grown_mix hgb hx2 hg3⟩
        · have hq2 : (r == 1) = false := by simpa using hq
          go_wp2
          go_ret
          exact ⟨_, _, rfl, hx1, by omega, HA.out, hs1, hga⟩
theorem mul_any {n x : Int} (h0 : 1 ≤ n) (h2 : 1 ≤ x) (h : ¬ (1000000000000 : Int) / x < n) : 1 ≤ n * x ∧ n * x ≤ 1000000000000 := by
  have a := Int.mul_le_mul h0 h2 (by omega) (by omega)
  rw [Int.ediv_lt_iff_lt_mul (by omega)] at h
  omega
set_option maxHeartbeats 800000 in
set_option maxRecDepth 100000 in
theorem total_any (w : World) (v : Value) (s : List Int) (h : Rd w v s) (hs : AnyP s) :
    Calls Try.prog 96 #[v] w (fun e w' => ∃ r : Int, e = .returned (.int .i64 r) ∧ r ≤ 1000000000000 ∧ Below w.heap.size w w') := by
  obtain ⟨a, cap, rfl, hl, hc⟩ := h
  have HC := Lib.hid hc; clear hc
  have HSZ := Lib.hid hs; clear hs
  go_enter Try.func96, Try.ntmps96
  go_wp2
  go_loopw [3] (fun i wr => ∃ k : Nat, k ≤ s.length ∧ i = .int .i64 k ∧ Hid (∀ j, j < k → s.getD j 0 ≠ 0) ∧ Below w.heap.size w wr) (fun i _ => s.length - (intOf i).toNat)
  case atStart => exact ⟨0, Nat.zero_le _, rfl, fun j hj => absurd hj (by omega), Below.refl _ _⟩
  case round =>
    obtain ⟨k, hk, rfl, hall, hbel⟩ := hrel
    by_cases hlt : k < s.length
    · obtain ⟨bb, off, rfl, hbs, hcell⟩ := HC.out k hlt
      have c1 : wr.cell? ⟨bb, off + k, none⟩ = some (.int .i64 (s.getD k 0)) := (hbel.cell (p := ⟨bb, off + k, none⟩) hbs).trans (hcell k hlt)
      clear hcell
      obtain ⟨x, hx⟩ : ∃ x, x = s.getD k 0 := ⟨_, rfl⟩
      rw [← hx] at c1
      by_cases h0 : x = 0
      · clear hx
        have ht : (x == 0) = true := by simpa using h0
        clear h0
        go_wp2
        go_ret
        exact ⟨0, rfl, by omega, hbel⟩
      · have ht : (x == 0) = false := by simpa using h0
        have HX := Lib.hid hx; have H0 := Lib.hid h0; clear hx h0
        go_wp2
        go_roundw
        case rel =>
          refine ⟨k + 1, by omega, by go_num, fun j hj => ?_, hbel⟩
          by_cases hjk : j = k
          · subst hjk; rw [← HX.out]; exact H0.out
          · exact hall.out j (by omega)
        case measure => simp [intOf]; omega
    · obtain rfl : k = s.length := by omega
      have HA := hall
      have HB := Lib.hid hbel; clear hbel
      go_wp2
      go_loopw [4, 5] (fun c i wr => ∃ (k : Nat) (n : Int), k ≤ s.length ∧ i = .int .i64 k ∧ c = .int .i64 n ∧ 1 ≤ n ∧ n ≤ 1000000000000 ∧ Below w.heap.size w wr) (fun _ i _ => s.length - (intOf i).toNat)
      case atStart => exact ⟨0, 1, Nat.zero_le _, rfl, rfl, by omega, by omega, HB.out⟩
      case round =>
        obtain ⟨k, n, hk, rfl, rfl, hp, hp2, hbel⟩ := hrel
        by_cases hlt : k < s.length
        · obtain ⟨bb, off, rfl, hbs, hcell⟩ := HC.out k hlt
          have c1 : wr.cell? ⟨bb, off + k, none⟩ = some (.int .i64 (s.getD k 0)) := (hbel.cell (p := ⟨bb, off + k, none⟩) hbs).trans (hcell k hlt)
          clear hcell
          have hm := HSZ.out _ (mem_getD hlt)
          have h3 := HA.out k hlt
          obtain ⟨x, hx⟩ : ∃ x, x = s.getD k 0 := ⟨_, rfl⟩
          rw [← hx] at c1 hm h3
          clear hx
          by_cases hx1 : x = -1
          · subst hx1
            clear hm h3
            go_wp2
            go_ret
            exact ⟨-1, rfl, by omega, hbel⟩
          · have hx2 : 1 ≤ x := by omega
            have hx3 : x ≤ 257 := hm.2
            clear hm h3 hx1
            by_cases hd : (1000000000000 : Int) / x < n
            · go_wp2
              go_ret
              exact ⟨-1, rfl, by omega, hbel⟩
            · have hmb := mul_any hp hx2 hd
              have hwr : IntKind.i64.wrap (n * x) = n * x := IntWalk.i64_in _ (by omega)
              have hwr2 : wrap64 (n * x) = n * x := IntWalk.wrap64_in _ (by omega)
              have HMB := Lib.hid hmb; clear hmb
              go_wp2
              go_roundw
              case rel => exact ⟨k + 1, n * x, by omega, by go_num, rfl, HMB.out.1, HMB.out.2, hbel⟩
              case measure => simp [intOf]; omega
        · obtain rfl : k = s.length := by omega
          go_wp2
          go_ret
          exact ⟨n, rfl, by omega, hbel⟩
set_option maxHeartbeats 800000 in
set_option maxRecDepth 100000 in
theorem drawTup_any (w : World) (v : Value) (h : InB w v) :
    Calls Try.prog 32 #[v] w (fun e w' => ∃ (n : Int) (xs : List Int) (y : Value), e = .returned (.tuple #[y, .int .i64 n]) ∧ Sl w' w.heap.size y xs ∧ xs.length ≤ 10 ∧ Below w.heap.size w w') := by
  go_enter Try.func32, Try.ntmps32
  go_wp2_with fail
  refine (from_any _ _ h).mono ?_; rintro e w1 ⟨g, y, rfl, hs, hg, hb⟩
  go_wp2_with fail
  refine (drawSizes_any _ g _ hs).mono ?_; rintro e w2 ⟨xs, z, rfl, hx, hxl, hxa, hs2, hgr2⟩
  have hb2 := below_src hb hg hgr2
  go_wp2_with fail
  refine (total_any _ _ _ hx.rd hxa).mono ?_; rintro e w3 ⟨t, rfl, ht, hb3⟩
  have hx3 : Sl w3 w.heap.size z xs := (sl_below hb3 hx).mono hb.size
  have hs3 : Src w3 g y := hs2.keep (by have := hs2.lt; exact ⟨hb3.os, hb3.tape, hb3.output, hb3.size, fun i hi => hb3.block i (by omega)⟩)
  have hb4 : Below w.heap.size w w3 := hb2.trans (hb3.mono hb2.size)
  have hne : z.ownBlock ≠ some g := fun e => by have := (hx.1.lt g e).1; have := hs.lt; omega
  clear hs hs2 hgr2 hb2 hb3 hxa hx hb h
  by_cases h1 : t < 1
  · go_wp2_with fail
    have hL := lit4 w3 (-1) t 0 9223372036854775807
    refine (pick_any _ g _ _ _ (hs3.alloc _) hL.rd (by simp) (not_own hL hs3.lt)).mono ?_; rintro e w4 ⟨r2, rfl, hr2, hs4, hgr4⟩
    have hx4 := sl_kept (sl_alloc hx3 _) hgr4 (.inr hne)
    go_wp2
    go_ret2
    exact ⟨r2, xs, z, rfl, hx4, hxl, below_src hb4 hg (grown_alloc hgr4)⟩
  · go_wp2_with fail
    refine (next_any _ g _ _ hs3 (by omega)).mono ?_; rintro e w4 ⟨r, rfl, hr0, hr1, hs4, hgr4⟩
    have hx4 := sl_kept hx3 hgr4 (.inr hne)
    have hb5 := below_src hb4 hg hgr4
    by_cases hr : r = 0
    · subst hr
      go_wp2_with fail
      have hL := lit4 w4 (-1) t 0 9223372036854775807
      refine (pick_any _ g _ _ _ (hs4.alloc _) hL.rd (by simp) (not_own hL hs4.lt)).mono ?_; rintro e w5 ⟨r2, rfl, hr2, hs5, hgr5⟩
      have hx5 := sl_kept (sl_alloc hx4 _) hgr5 (.inr hne)
      go_wp2
      go_ret2
      exact ⟨r2, xs, z, rfl, hx5, hxl, below_src hb5 hg (grown_alloc hgr5)⟩
    · have hr2 : (r == 0) = false := by simpa using hr
      go_wp2_with fail
      refine (next_any _ g _ _ hs4 (by omega)).mono ?_; rintro e w5 ⟨r2, rfl, hr20, hr21, hs5, hgr5⟩
      have hx5 := sl_kept hx4 hgr5 (.inr hne)
      go_wp2
      go_ret2
      exact ⟨r2, xs, z, rfl, hx5, hxl, below_src hb5 hg hgr5⟩
section
variable {w0 : World} {is : List Itm} {ops : Array Oper} {Q : Exit → Act → World → Prop} {o : Oper} {rest : List Oper} {N : Nat} {e : Env} {v : Value} {d : Nat} {K : Act → World → Prop} {f : FuncId} {fn : Func} {ags : Array Operand} {ts : Array TypeId} {vs : List Value}
theorem go_callTup (hd : o.dst = some d) (hN : Nat.blt d N = true) (hop : o.op = .call { callee := .value (.func f), args := ags, argTypes := ts }) (hfn : Try.prog.funcs[f]? = some fn) (hb : fn.body.isNone = false) (hn : (fn.name == "runtime.NumGoroutine") = false)
    (hargs : evoL e ags.toList = some vs) (hc : ∀ w, Mem w0 w is → Calls Try.prog f vs.toArray w (fun e w' => ∃ (n : Int) (xs : List Int) (y : Value), e = .returned (.tuple #[y, .int .i64 n]) ∧ Sl w' w.heap.size y xs ∧ xs.length ≤ 10 ∧ Below w.heap.size w w'))
    (hk : ∀ (n : Int) (xs : List Int) (a : Option Addr) (k : Nat), xs.length ≤ 10 → GK w0 (is ++ [own1I (.slice a xs.length k) xs]) N K ((d, .tuple #[.slice a xs.length k, .int .i64 n]) :: e)) : GO w0 is N o e Q K := by
  intro w a M F
  refine go_call hd hN F hop hfn hb hn hargs (hc w M) fun e' w' hR => ?_
  obtain ⟨n, xs, y, rfl, h1, l1, hbl⟩ := hR
  obtain ⟨ya, yc, rfl⟩ := rd_form h1.rd
  exact ⟨_, rfl, fun a F => hk n xs ya yc l1 w' a (mem_new M hbl (own1_of h1)) F⟩
end

set_option maxHeartbeats 4000000 in
set_option maxRecDepth 100000 in
theorem tplWalk (w : World) (ca : Option Addr) (clen ccap : Nat) (h : InB w (.slice ca clen ccap)) (hcl : clen ≤ 9223372036854775807) :
    Calls Try.prog 5 #[.slice ca clen ccap] w (RetB w true) := by
  go_enter Try.func5, Try.ntmps5
  refine gc_enter (N := 98) rfl (look_cons (k := 0) rfl (look_nil _)) ?_
  refine gc_seq fun K1 hK1 => ?_
  refine gc_region ?_
  refine g_v (.free rfl) rfl rfl (qt_assign rfl rfl) ?_
  refine g_nil ?_
  refine gk_then (hK1 _ _ ?_)
  refine gc_seq fun K2 hK2 => ?_
  refine gc_seq fun K3 hK3 => ?_
  refine gc_region ?_
  refine g_v (.free rfl) rfl rfl (qt_move rfl rfl) ?_
  refine g_q (.free rfl) rfl rfl (qt_call rfl Try.func14 rfl (by decide) rfl (fun w M => bigN_any w _ _ _ (by first | assumption | omega))) ?_
  refine g_nil ?_
  refine gk_then (hK3 _ _ ?_)
  refine gc_cond rfl (fun hc0 => ?_) (fun hc0 => ?_)
  · try simp only [decide_eq_true_eq, decide_eq_false_iff_not, Bool.not_eq_true', Bool.not_eq_false', Bool.not_eq_eq_eq_not, Bool.not_true, Bool.not_false, ne_eq, Decidable.not_not, Classical.not_not] at hc0
    refine gc_seq fun K4 hK4 => ?_
    refine gc_region ?_
    refine g_v (.free rfl) rfl rfl (qt_assign rfl rfl) ?_
    refine g_nil ?_
    refine gk_then (hK4 _ _ ?_)
    refine gc_ret ?_
    refine gk_then_ret ?_
    refine ret_1 rfl rfl  (fun w M => ?_)
    exact ⟨rfl, M.1⟩
  · try simp only [decide_eq_true_eq, decide_eq_false_iff_not, Bool.not_eq_true', Bool.not_eq_false', Bool.not_eq_eq_eq_not, Bool.not_true, Bool.not_false, ne_eq, Decidable.not_not, Classical.not_not] at hc0
    refine gc_skip ?_
    refine gk_then (hK2 _ _ ?_)
    refine gc_seq fun K5 hK5 => ?_
    refine gc_region ?_
    refine g_v (.free rfl) rfl rfl (qt_move rfl rfl) ?_
    refine g_op (.free rfl) fun K7 hK7 => ?_
    refine go_callTup rfl rfl rfl Try.func32 rfl (by decide) rfl (fun w M => drawTup_any w _ (inb_below M.1 h)) ?_
    intro n s sa sk hsl
    refine hK7 _ _ ?_
    refine g_v (.free rfl) rfl rfl (qt_move rfl rfl) ?_
    refine g_v (.free rfl) rfl rfl (qt_extract rfl rfl rfl) ?_
    refine g_v (.free rfl) rfl rfl (qt_extract rfl rfl rfl) ?_
    refine g_v (.free rfl) rfl rfl (qt_assign rfl rfl) ?_
    refine g_v (.free rfl) rfl rfl (qt_assign rfl rfl) ?_
    refine g_nil ?_
    refine gk_then (hK5 _ _ ?_)
    refine gc_seq fun K8 hK8 => ?_
    obtain ⟨t, r1, hT⟩ : ∃ t r1, fTupleAt s n = (t, r1) := ⟨_, _, rfl⟩
    have HAi := fun (w : World) (v : Value) (h1 : Rd w v s) => impl_TupleAt w v s n h1
    simp only [hT] at HAi
    have HAs := fun (w : World) (v : Value) (h1 : Rd w v s) => spec_TupleAt w v s n h1
    simp only [hT] at HAs
    refine gc_region ?_
    refine g_v (.free rfl) rfl rfl (qt_move rfl rfl) ?_
    refine g_v (.free rfl) rfl rfl (qt_move rfl rfl) ?_
    refine g_op (.free rfl) fun K10 hK10 => ?_
    refine go_callLI rfl rfl rfl Try.func33 rfl (by decide) rfl (fun w M => HAi w _ ((mem_own1 (n := 0) M rfl).rd)) ?_
    intro va9 vc9
    refine hK10 _ _ ?_
    refine g_v (.free rfl) rfl rfl (qt_move rfl rfl) ?_
    refine g_v (.free rfl) rfl rfl (qt_extract rfl rfl rfl) ?_
    refine g_v (.free rfl) rfl rfl (qt_extract rfl rfl rfl) ?_
    refine g_v (.free rfl) rfl rfl (qt_assign rfl rfl) ?_
    refine g_v (.free rfl) rfl rfl (qt_assign rfl rfl) ?_
    refine g_nil ?_
    refine gk_then (hK8 _ _ ?_)
    refine gc_seq fun K11 hK11 => ?_
    refine gc_region ?_
    refine g_v (.free rfl) rfl rfl (qt_move rfl rfl) ?_
    refine g_v (.free rfl) rfl rfl (qt_move rfl rfl) ?_
    refine g_op (.free rfl) fun K13 hK13 => ?_
    refine go_callLI rfl rfl rfl Try.func34 rfl (by decide) rfl (fun w M => HAs w _ ((mem_own1 (n := 0) M rfl).rd)) ?_
    intro va12 vc12
    refine hK13 _ _ ?_
    refine g_v (.free rfl) rfl rfl (qt_move rfl rfl) ?_
    refine g_v (.free rfl) rfl rfl (qt_extract rfl rfl rfl) ?_
    refine g_v (.free rfl) rfl rfl (qt_extract rfl rfl rfl) ?_
    refine g_v (.free rfl) rfl rfl (qt_assign rfl rfl) ?_
    refine g_v (.free rfl) rfl rfl (qt_assign rfl rfl) ?_
    refine g_nil ?_
    refine gk_then (hK11 _ _ ?_)
    refine gc_seq fun K14 hK14 => ?_
    refine gc_seq fun K15 hK15 => ?_
    refine gc_region ?_
    refine g_v (.free rfl) rfl rfl (qt_move rfl rfl) ?_
    refine g_v (.free rfl) rfl rfl (qt_move rfl rfl) ?_
    refine g_v (.free rfl) rfl rfl (qt_neq_f rfl rfl rfl (fun h => h rfl)) ?_
    refine g_v (.free rfl) rfl rfl (qt_move rfl rfl) ?_
    refine g_v (.held _ _ _ rfl rfl rfl) rfl rfl (qt_move rfl rfl) ?_
    refine g_v (.held _ _ _ rfl rfl rfl) rfl rfl (qt_move rfl rfl) ?_
    refine g_q (.held _ _ _ rfl rfl rfl) rfl rfl (qt_call rfl Try.func20 rfl (by decide) rfl (fun w M => like_refl_any w _ _ _ ((mem_own1 (n := 1) M rfl).rd) ((mem_own1 (n := 2) M rfl).rd))) ?_
    refine g_v (.held _ _ _ rfl rfl rfl) rfl rfl (qt_not rfl rfl) ?_
    refine g_v (.free rfl) rfl rfl (qt_pick_f rfl rfl rfl) ?_
    refine g_nil ?_
    refine gk_then (hK15 _ _ ?_)
    refine gc_cond_f rfl ?_
    refine gc_skip ?_
    refine gk_then (hK14 _ _ ?_)
    refine gc_seq fun K16 hK16 => ?_
    refine gc_seq fun K17 hK17 => ?_
    refine gc_region ?_
    refine g_v (.free rfl) rfl rfl (qt_move rfl rfl) ?_
    refine g_v (.free rfl) rfl rfl (qt_neq rfl rfl rfl) ?_
    refine g_nil ?_
    refine gk_then (hK17 _ _ ?_)
    refine gc_cond rfl (fun hc1 => ?_) (fun hc1 => ?_)
    · try simp only [decide_eq_true_eq, decide_eq_false_iff_not, Bool.not_eq_true', Bool.not_eq_false', Bool.not_eq_eq_eq_not, Bool.not_true, Bool.not_false, ne_eq, Decidable.not_not, Classical.not_not] at hc1
      refine gc_seq fun K18 hK18 => ?_
      refine gc_region ?_
      refine g_v (.free rfl) rfl rfl (qt_assign rfl rfl) ?_
      refine g_nil ?_
      refine gk_then (hK18 _ _ ?_)
      refine gc_ret ?_
      refine gk_then_ret ?_
      refine ret_1 rfl rfl  (fun w M => ?_)
      exact ⟨rfl, M.1⟩
    · try simp only [decide_eq_true_eq, decide_eq_false_iff_not, Bool.not_eq_true', Bool.not_eq_false', Bool.not_eq_eq_eq_not, Bool.not_true, Bool.not_false, ne_eq, Decidable.not_not, Classical.not_not] at hc1
      refine gc_skip ?_
      refine gk_then (hK16 _ _ ?_)
      refine gc_seq fun K19 hK19 => ?_
      obtain rfl : r1 = 0 := by omega
      obtain ⟨u, r3, hU⟩ : ∃ u r3, fTupleAt s (n + 1) = (u, r3) := ⟨_, _, rfl⟩
      have hL := tup_law hT hU
      obtain ⟨hn0, hn1, htl, hnum, hr4, hlex⟩ := hL
      have HAn := fun (w : World) (v : Value) (h1 : Rd w v s) => impl_TupleAt w v s (n + 1) h1
      simp only [hU] at HAn
      have HN := fun (w : World) (v x : Value) (h1 : Rd w v s) (h2 : Rd w x t) => impl_TupleNumber w v s x t h1 h2
      simp only [hnum] at HN
      refine gc_region ?_
      refine g_v (.free rfl) rfl rfl (qt_move rfl rfl) ?_
      refine g_v (.free rfl) rfl rfl (qt_move rfl rfl) ?_
      refine g_q (.free rfl) rfl rfl (qt_call rfl Try.func35 rfl (by decide) rfl (fun w M => HN w _ _ ((mem_own1 (n := 0) M rfl).rd) ((mem_own1 (n := 2) M rfl).rd))) ?_
      refine g_v (.free rfl) rfl rfl (qt_move rfl rfl) ?_
      refine g_v (.free rfl) rfl rfl (qt_extract rfl rfl rfl) ?_
      refine g_v (.free rfl) rfl rfl (qt_extract rfl rfl rfl) ?_
      refine g_v (.free rfl) rfl rfl (qt_assign rfl rfl) ?_
      refine g_v (.free rfl) rfl rfl (qt_assign rfl rfl) ?_
      refine g_nil ?_
      refine gk_then (hK19 _ _ ?_)
      refine gc_seq fun K20 hK20 => ?_
      refine gc_region ?_
      refine g_v (.free rfl) rfl rfl (qt_move rfl rfl) ?_
      refine g_v (.free rfl) rfl rfl (qt_move rfl rfl) ?_
      refine g_v (.free rfl) rfl rfl (qt_add rfl rfl rfl (by omega)) ?_
      refine g_op (.free rfl) fun K22 hK22 => ?_
      refine go_callLI rfl rfl rfl Try.func33 rfl (by decide) rfl (fun w M => HAn w _ ((mem_own1 (n := 0) M rfl).rd)) ?_
      intro va21 vc21
      refine hK22 _ _ ?_
      refine g_v (.free rfl) rfl rfl (qt_move rfl rfl) ?_
      refine g_v (.free rfl) rfl rfl (qt_extract rfl rfl rfl) ?_
      refine g_v (.free rfl) rfl rfl (qt_extract rfl rfl rfl) ?_
      refine g_v (.free rfl) rfl rfl (qt_assign rfl rfl) ?_
      refine g_v (.free rfl) rfl rfl (qt_assign rfl rfl) ?_
      refine g_nil ?_
      refine gk_then (hK20 _ _ ?_)
      refine gc_seq fun K23 hK23 => ?_
      refine gc_seq fun K24 hK24 => ?_
      refine gc_region ?_
      refine g_v (.free rfl) rfl rfl (qt_move rfl rfl) ?_
      refine g_v (.free rfl) rfl rfl (qt_neq_f rfl rfl rfl (fun h => h rfl)) ?_
      refine g_v (.free rfl) rfl rfl (qt_move rfl rfl) ?_
      refine g_v (.held _ _ _ rfl rfl rfl) rfl rfl (qt_move rfl rfl) ?_
      refine g_v (.held _ _ _ rfl rfl rfl) rfl rfl (qt_move rfl rfl) ?_
      refine g_v (.held _ _ _ rfl rfl rfl) rfl rfl (qt_neq_f rfl rfl rfl (fun h => h rfl)) ?_
      refine g_v (.free rfl) rfl rfl (qt_pick_f rfl rfl rfl) ?_
      refine g_nil ?_
      refine gk_then (hK24 _ _ ?_)
      refine gc_cond_f rfl ?_
      refine gc_skip ?_
      refine gk_then (hK23 _ _ ?_)
      refine gc_seq fun K25 hK25 => ?_
      refine gc_seq fun K26 hK26 => ?_
      refine gc_region ?_
      refine g_v (.free rfl) rfl rfl (qt_move rfl rfl) ?_
      refine g_v (.free rfl) rfl rfl (qt_neq rfl rfl rfl) ?_
      refine g_nil ?_
      refine gk_then (hK26 _ _ ?_)
      refine gc_cond rfl (fun hc2 => ?_) (fun hc2 => ?_)
      · try simp only [decide_eq_true_eq, decide_eq_false_iff_not, Bool.not_eq_true', Bool.not_eq_false', Bool.not_eq_eq_eq_not, Bool.not_true, Bool.not_false, ne_eq, Decidable.not_not, Classical.not_not] at hc2
        refine gc_seq fun K27 hK27 => ?_
        refine gc_region ?_
        refine g_v (.free rfl) rfl rfl (qt_move rfl rfl) ?_
        refine g_v (.free rfl) rfl rfl (qt_eql rfl rfl rfl) ?_
        refine g_v (.free rfl) rfl rfl (qt_assign rfl rfl) ?_
        refine g_nil ?_
        refine gk_then (hK27 _ _ ?_)
        refine gc_ret ?_
        refine gk_then_ret ?_
        refine ret_1 rfl rfl  (fun w M => ?_)
        refine ⟨?_, M.1⟩; rw [decide_eq_true (hr4 (by omega))]
      · try simp only [decide_eq_true_eq, decide_eq_false_iff_not, Bool.not_eq_true', Bool.not_eq_false', Bool.not_eq_eq_eq_not, Bool.not_true, Bool.not_false, ne_eq, Decidable.not_not, Classical.not_not] at hc2
        refine gc_skip ?_
        refine gk_then (hK25 _ _ ?_)
        refine gc_seq fun K28 hK28 => ?_
        refine gc_seq fun K29 hK29 => ?_
        obtain ⟨hul, hle, hne⟩ := hlex (by omega)
        refine gc_region ?_
        refine g_v (.free rfl) rfl rfl (qt_assign rfl rfl) ?_
        refine g_nil ?_
        refine gk_then (hK29 _ _ ?_)
        refine gc_block ?_
        try simp only [List.nil_append, List.cons_append, List.append_assoc, List.set_cons_succ, List.set_cons_zero]
        refine gc_loop ([(0, _), (3, _), (4, _), (5, _), (6, _), (7, _), (8, _), (9, _), (10, _), (11, _), (12, _), (15, _), (41, _), (43, _), (63, _), (65, _)] : Env) (fun s : Nat => (fun (k : Nat) => ([(13, .int .i64 (k : Int))] : Env)) s) (fun s : Nat => (fun (k : Nat) => ([] : List (Nat × Itm))) s) (fun s : Nat => (fun (k : Nat) => k ≤ t.length ∧ ∀ j : Nat, j < k → at0 t (j : Int) = at0 u (j : Int)) s) (fun s : Nat => (fun (k : Nat) => t.length - k) s) (0) (sub_cons rfl (sub_cons rfl (sub_cons rfl (sub_cons rfl (sub_cons rfl (sub_cons rfl (sub_cons rfl (sub_cons rfl (sub_cons rfl (sub_cons rfl (sub_cons rfl (sub_cons rfl (sub_cons rfl (sub_cons rfl (sub_cons rfl (sub_cons rfl (sub_cons rfl sub_nil))))))))))))))))) rfl ⟨Nat.zero_le _, fun j hj => absurd hj (by omega)⟩ ?_
        rintro k hinv KL30 hKL30
        simp only [updL, List.foldl_cons, List.foldl_nil, List.set_cons_succ, List.set_cons_zero, List.cons_append, List.nil_append] at hinv hKL30 ⊢
        obtain ⟨hk, hsame⟩ := hinv
        refine gc_seq fun K31 hK31 => ?_
        refine gc_seq fun K32 hK32 => ?_
        refine gc_region ?_
        refine g_v (.free rfl) rfl rfl (qt_move rfl rfl) ?_
        refine g_v (.free rfl) rfl rfl (qt_move rfl rfl) ?_
        refine g_v (.free rfl) rfl rfl (qt_len rfl rfl ulE1 (fun w M => lenV_own1 (n := 2) rfl M)) ?_
        refine g_v (.free rfl) rfl rfl (qt_lss rfl rfl rfl) ?_
        refine g_splitv (.free rfl) rfl rfl (qt_move rfl rfl) (fun hs17_4 => ?_) (fun hs17_4 => ?_)
        · try simp only [decide_eq_true_eq, decide_eq_false_iff_not, Bool.not_eq_true', Bool.not_eq_false', Bool.not_eq_eq_eq_not, Bool.not_true, Bool.not_false, ne_eq, Decidable.not_not, Classical.not_not] at hs17_4
          refine g_v (.held _ _ _ rfl rfl rfl) rfl rfl (qt_move rfl rfl) ?_
          refine g_v (.held _ _ _ rfl rfl rfl) rfl rfl (qt_move rfl rfl) ?_
          refine g_v (.held _ _ _ rfl rfl rfl) rfl rfl (qt_len rfl rfl ulE1 (fun w M => lenV_own1 (n := 3) rfl M)) ?_
          refine g_v (.held _ _ _ rfl rfl rfl) rfl rfl (qt_lss rfl rfl rfl) ?_
          refine g_v (.free rfl) rfl rfl (qt_pick_t rfl rfl rfl) ?_
          refine g_nil ?_
          refine gk_then (hK32 _ _ ?_)
          refine gc_cond rfl (fun hc3 => ?_) (fun hc3 => ?_)
          · try simp only [decide_eq_true_eq, decide_eq_false_iff_not, Bool.not_eq_true', Bool.not_eq_false', Bool.not_eq_eq_eq_not, Bool.not_true, Bool.not_false, ne_eq, Decidable.not_not, Classical.not_not] at hc3
            refine gc_skip ?_
            refine gk_then (hK31 _ _ ?_)
            refine gc_seq fun K33 hK33 => ?_
            refine gc_block ?_
            refine gc_seq fun K34 hK34 => ?_
            refine gc_draw (by kernel_rfl) ?_
            refine gd_v (.free rfl) rfl rfl (qt_move rfl rfl) ?_
            refine gd_v (.free rfl) rfl rfl (qt_move rfl rfl) ?_
            refine gd_v (.free rfl) rfl rfl (qt_index rfl rfl rfl ulE1 szE1 (fun w M => lenA_own1 (n := 2) rfl M) (by omega) (by omega)) ?_
            refine gd_v (.free rfl) rfl rfl (qt_load1 rfl rfl Try.underlying2 rfl (fun w M => (mem_own1 (n := 2) M rfl).rd) (by omega) (by omega)) ?_
            refine gd_v (.free rfl) rfl rfl (qt_move rfl rfl) ?_
            refine gd_v (.free rfl) rfl rfl (qt_move rfl rfl) ?_
            refine gd_v (.free rfl) rfl rfl (qt_index rfl rfl rfl ulE1 szE1 (fun w M => lenA_own1 (n := 3) rfl M) (by omega) (by omega)) ?_
            refine gd_v (.free rfl) rfl rfl (qt_load1 rfl rfl Try.underlying2 rfl (fun w M => (mem_own1 (n := 3) M rfl).rd) (by omega) (by omega)) ?_
            refine gd_v (.free rfl) rfl rfl (qt_neq rfl rfl rfl) ?_
            refine gd_nil ?_
            refine gk_then (hK34 _ _ ?_)
            refine gc_cond rfl (fun hc4 => ?_) (fun hc4 => ?_)
            · try simp only [decide_eq_true_eq, decide_eq_false_iff_not, Bool.not_eq_true', Bool.not_eq_false', Bool.not_eq_eq_eq_not, Bool.not_true, Bool.not_false, ne_eq, Decidable.not_not, Classical.not_not] at hc4
              refine gc_seq fun K35 hK35 => ?_
              refine gc_draw (by kernel_rfl) ?_
              refine gd_v (.free rfl) rfl rfl (qt_move rfl rfl) ?_
              refine gd_v (.free rfl) rfl rfl (qt_move rfl rfl) ?_
              refine gd_v (.free rfl) rfl rfl (qt_index rfl rfl rfl ulE1 szE1 (fun w M => lenA_own1 (n := 2) rfl M) (by omega) (by omega)) ?_
              refine gd_v (.free rfl) rfl rfl (qt_load1 rfl rfl Try.underlying2 rfl (fun w M => (mem_own1 (n := 2) M rfl).rd) (by omega) (by omega)) ?_
              refine gd_v (.free rfl) rfl rfl (qt_move rfl rfl) ?_
              refine gd_v (.free rfl) rfl rfl (qt_move rfl rfl) ?_
              refine gd_v (.free rfl) rfl rfl (qt_index rfl rfl rfl ulE1 szE1 (fun w M => lenA_own1 (n := 3) rfl M) (by omega) (by omega)) ?_
              refine gd_v (.free rfl) rfl rfl (qt_load1 rfl rfl Try.underlying2 rfl (fun w M => (mem_own1 (n := 3) M rfl).rd) (by omega) (by omega)) ?_
              refine gd_v (.free rfl) rfl rfl (qt_lss rfl rfl rfl) ?_
              refine gd_v (.free rfl) rfl rfl (qt_assign rfl rfl) ?_
              refine gd_nil ?_
              refine gk_then (hK35 _ _ ?_)
              refine gc_ret ?_
              refine gk_block_ret ?_
              refine gk_then_ret ?_
              refine gk_then_ret ?_
              refine gk_block_ret ?_
              refine gk_then_ret ?_
              refine ret_1 rfl rfl  (fun w M => ?_)
              refine ⟨?_, M.1⟩; have h1 := hle k (by omega) hsame; rw [decide_eq_true (show at0 t (k : Int) < at0 u (k : Int) by omega)]
            · try simp only [decide_eq_true_eq, decide_eq_false_iff_not, Bool.not_eq_true', Bool.not_eq_false', Bool.not_eq_eq_eq_not, Bool.not_true, Bool.not_false, ne_eq, Decidable.not_not, Classical.not_not] at hc4
              refine gc_skip ?_
              refine gk_block ?_
              refine gk_then (hK33 _ _ ?_)
              refine gc_region ?_
              refine g_v (.free rfl) rfl rfl (qt_move rfl rfl) ?_
              refine g_v (.free rfl) rfl rfl (qt_add rfl rfl rfl (by omega)) ?_
              refine g_v (.free rfl) rfl rfl (qt_assign rfl rfl) ?_
              refine g_nil ?_
              refine gk_then (gk_take 4 ?_)
              refine gk_sub ?hs_36 (hKL30 (k + 1) ?hi_36 ?hm_36)
              case hs_36 => exact (sub_cons rfl (sub_cons rfl (sub_cons rfl (sub_cons rfl (sub_cons rfl (sub_cons rfl (sub_cons rfl (sub_cons rfl (sub_cons rfl (sub_cons rfl (sub_cons rfl (sub_cons rfl (sub_cons rfl (sub_cons rfl (sub_cons rfl (sub_cons rfl (sub_cons rfl sub_nil)))))))))))))))))
              case hi_36 => exact ⟨by omega, all_next hsame (by assumption)⟩
              case hm_36 => omega
          · try simp only [decide_eq_true_eq, decide_eq_false_iff_not, Bool.not_eq_true', Bool.not_eq_false', Bool.not_eq_eq_eq_not, Bool.not_true, Bool.not_false, ne_eq, Decidable.not_not, Classical.not_not] at hc3
            refine gc_exit ?_
            refine gk_then_exit ?_
            refine gk_then_exit ?_
            refine gk_block_hit ?_
            refine gk_then (hK28 _ _ ?_)
            refine gc_seq fun K37 hK37 => ?_
            refine gc_region ?_
            refine g_v (.free rfl) rfl rfl (qt_assign rfl rfl) ?_
            refine g_nil ?_
            refine gk_then (hK37 _ _ ?_)
            refine gc_ret ?_
            refine ret_1 rfl rfl  (fun w M => ?_)
            exact absurd (fun j hj => hsame j (by omega)) hne
        · try simp only [decide_eq_true_eq, decide_eq_false_iff_not, Bool.not_eq_true', Bool.not_eq_false', Bool.not_eq_eq_eq_not, Bool.not_true, Bool.not_false, ne_eq, Decidable.not_not, Classical.not_not] at hs17_4
          refine g_skip (.not _ _ _ _ rfl rfl rfl rfl) rfl rfl ?_
          refine g_skip (.not _ _ _ _ rfl rfl rfl rfl) rfl rfl ?_
          refine g_skip (.not _ _ _ _ rfl rfl rfl rfl) rfl rfl ?_
          refine g_skip (.not _ _ _ _ rfl rfl rfl rfl) rfl rfl ?_
          refine g_v (.free rfl) rfl rfl (qt_pick_f rfl rfl rfl) ?_
          refine g_nil ?_
          refine gk_then (hK32 _ _ ?_)
          refine gc_cond_f rfl ?_
          refine gc_exit ?_
          refine gk_then_exit ?_
          refine gk_then_exit ?_
          refine gk_block_hit ?_
          refine gk_then (hK28 _ _ ?_)
          refine gc_seq fun K38 hK38 => ?_
          refine gc_region ?_
          refine g_v (.free rfl) rfl rfl (qt_assign rfl rfl) ?_
          refine g_nil ?_
          refine gk_then (hK38 _ _ ?_)
          refine gc_ret ?_
          refine ret_1 rfl rfl  (fun w M => ?_)
          exact absurd (fun j hj => hsame j (by omega)) hne

end Go.Proofs.Ytdgffiilalabeaa
