
/- The laws' own helpers for lists of lists: copying, comparing, writing over, what was written. -/
import Derived.StillTailTactics
import Derived.Test.YtakifeiemcldlaaRr
import Derived.Test.YtakifeiemcldlaaEq
import Derived.Test.YtakifeiemcldlaaLaw
namespace Go.Proofs.Ytakifeiemcldlaa
open Go.RowKit

theorem cellsSS : Try.prog.cellsOf 23 = 1 := by kernel_rfl

theorem sl2_form {w : World} {base : Nat} {v : Value} {rows : List (List Int)} (h : Sl2 w base v rows) :
    ∃ (a : Option Addr) (cap : Nat), v = .slice a rows.length cap ∧ ∀ j, j < rows.length → ∃ g, a = some ⟨g, 0, none⟩ := by
  obtain ⟨us, _, hl, ⟨hlen, hor⟩, _⟩ := h
  rcases hor with ⟨hv, hn⟩ | ⟨g, cap, cur, hv, _⟩
  · exact ⟨none, 0, by rw [hv, hn], fun j hj => by omega⟩
  · exact ⟨some ⟨g, 0, none⟩, cap, hv, fun j hj => ⟨g, rfl⟩⟩

theorem own_below {w w' : World} {base : Nat} {e : TypeId} {sz : Nat} {v : Value} {n : Nat} {xs : List Value} (hb : Below w.heap.size w w') (h : w.ownsRow base e sz v n xs) : w'.ownsRow base e sz v n xs := by
  obtain ⟨h3, h4⟩ := h
  refine ⟨h3, ?_⟩
  rcases h4 with h | ⟨g, cap, cur, hv, hbb, hg, rest⟩
  · exact .inl h
  · exact .inr ⟨g, cap, cur, hv, hbb, by rw [hb.block g (Array.getElem?_eq_some_iff.1 hg).1]; exact hg, rest⟩

/-- 'make([][]int64, n)'. -/
theorem wp_makeS {w : World} {ops : Array Oper} {rest : List Oper} {o : Oper} {a : Act} {Q : Exit → Act → World → Prop}
    (hg : o.guard = none) (l c : Operand) (t : TypeId) (hop : o.op = Op.makeSlice t l c) (ht : Try.prog.underlying t = some (.slice 22))
    (kl kc : IntKind) (L C : Int) (n : Nat) (hl : a.eval l = .int kl L) (hc : a.eval c = .int kc C) (hL : L = (n : Int)) (hC : C = (n : Int)) (hn : n ≤ 5000000000000)
    (hK : ∀ w', Sl2 w' w.heap.size (.slice (some ⟨w.heap.size, 0, none⟩) n n) (List.replicate n []) → Below w.heap.size w w' → wpList Try.prog ops Q rest (a.put o.dst (.slice (some ⟨w.heap.size, 0, none⟩) n n)) w') :
    wpList Try.prog ops Q (o :: rest) a w := by
  obtain ⟨i, hi, hz, hs, hb⟩ := info_parts infoS
  refine wpList_make_full w hg l c t hop w.heap.size 22 i (.slice none 0 0) 1 ht hi hz hs kl kc L C n hl hc hL hC (by rw [hb]; omega) (by unfold maxLen; omega) (Nat.le_refl _) ?_
  intro w' hown hgrow
  have hone : (madeCells #[Value.slice none 0 0] n).toList = List.replicate n (.slice none 0 0) := by rw [toList_madeCells_one]
  refine hK w' ⟨List.replicate n (.slice none 0 0), by simp, by simpa using hn, ?_, fun j hj => ?_, fun j k hjk hk => ?_⟩ ((Below.refl _ _).grown hgrow (Nat.le_refl _) (by simp))
  · simp only [Value.cells, Nat.mul_one] at hown
    rw [hone] at hown
    simpa using hown
  · have hj' : j < n := by simpa using hj
    have e1 : (List.replicate n (Value.slice none 0 0)).getD j undef = .slice none 0 0 := by simp [List.getD_eq_getElem?_getD, hj']
    have e2 : (List.replicate n ([] : List Int)).getD j [] = [] := by simp [List.getD_eq_getElem?_getD, hj']
    rw [e1, e2]
    exact ⟨Sl.nil _ _, fun g hg => by simp [Value.ownBlock] at hg⟩
  · have hk' : k < n := by simpa using hk
    have e1 : (List.replicate n (Value.slice none 0 0)).getD j undef = .slice none 0 0 := by simp [List.getD_eq_getElem?_getD, show j < n by omega]
    rw [e1]
    exact fun g hg => by simp [Value.ownBlock] at hg

theorem getD_set2 {α : Type} (l : List α) (x : Nat) (z d : α) (y : Nat) (hx : x < l.length) : (l.set x z).getD y d = if y = x then z else l.getD y d := by
  simp only [List.getD_eq_getElem?_getD, List.getElem?_set]
  by_cases h : x = y
  · subst h; simp [hx]
  · rw [if_neg h, if_neg (fun e => h e.symm)]

/-- A new row is stored into a place of the list. -/
theorem sl2_store {w w1 : World} {base g n cap k : Nat} {rows : List (List Int)} {r : List Int} {u0 : Value} (h : Sl2 w base (.slice (some ⟨g, 0, none⟩) n cap) rows) (hk : k < rows.length)
    (hb : Below w.heap.size w w1) (hu : Sl w1 w.heap.size u0 r) (hbase : base ≤ w.heap.size) :
    Sl2 (w1.setCell ⟨g, k, none⟩ u0) base (.slice (some ⟨g, 0, none⟩) n cap) (rows.set k r) := by
  obtain ⟨us, h1, h2, h3, h4, h5⟩ := h
  have hg0 : g < w.heap.size := (h3.lt g rfl).2
  have hlt : ∀ i, i < rows.length → ∀ q, (us.getD i undef).ownBlock = some q → q < w.heap.size := fun i hi q hq => ((h4 i hi).1.1.lt q hq).2
  have hge : ∀ q, u0.ownBlock = some q → w.heap.size ≤ q := fun q hq => (hu.1.lt q hq).1
  have hn : n = rows.length := by
    rcases h3.2 with ⟨hv, _⟩ | ⟨g', cap', cur, hv, _⟩
    · simp at hv
    · simp only [Value.slice.injEq] at hv
      exact hv.2.1
  subst hn
  have hst := (own_below hb h3).stored k u0
  have hgr := hst.2
  have hne : ∀ v : Value, (∀ q, v.ownBlock = some q → q ≠ g) → v.ownBlock = none ∨ v.ownBlock ≠ some g := fun v hv => by
    cases hb0 : v.ownBlock with
    | none => exact .inl rfl
    | some q => exact .inr fun e => hv q hb0 (by simpa using e)
  have hu0 : Sl (w1.setCell ⟨g, k, none⟩ u0) base u0 r := (sl_kept hu hgr (hne u0 fun q hq => by have := hge q hq; omega)).mono hbase
  refine ⟨us.set k u0, by simp [h1], by simpa using h2, by simpa using hst.1, fun i hi => ?_, fun i j hij hj => ?_⟩
  · simp only [List.length_set] at hi
    rw [getD_set2 us k u0 undef i (by omega), getD_set2 rows k r [] i (by omega)]
    by_cases hik : i = k
    · rw [if_pos hik, if_pos hik]
      exact ⟨hu0, fun q hq hv => by
        simp only [Value.ownBlock, Option.some.injEq] at hv
        have := hge q hq
        omega⟩
    · rw [if_neg hik, if_neg hik]
      exact ⟨sl_kept (sl_below hb (h4 i hi).1) hgr (hne _ fun q hq e => (h4 i hi).2 q hq (by simp [Value.ownBlock, e])), (h4 i hi).2⟩
  · simp only [List.length_set] at hj
    rw [getD_set2 us k u0 undef i (by omega), getD_set2 us k u0 undef j (by omega)]
    by_cases hik : i = k
    · rw [if_pos hik, if_neg (by omega)]
      intro q hq hq2
      have := hge q hq
      have := hlt j hj q hq2
      omega
    · rw [if_neg hik]
      by_cases hjk : j = k
      · rw [if_pos hjk]
        intro q hq hq2
        have := hge q hq2
        have := hlt i (by omega) q hq
        omega
      · rw [if_neg hjk]
        exact h5 i j hij hj

theorem rows_fill {rows : List (List Int)} {k : Nat} (hk : k < rows.length) :
    (rows.take k ++ List.replicate (rows.length - k) []).set k (rows.getD k []) = rows.take (k + 1) ++ List.replicate (rows.length - (k + 1)) [] := by
  have hl : (rows.take k).length = k := by simp; omega
  have hts : rows.take (k + 1) = rows.take k ++ [rows.getD k []] := by
    rw [List.take_succ_eq_append_getElem hk]; simp [List.getD_eq_getElem?_getD, List.getElem?_eq_getElem hk]
  rw [List.set_append, if_neg (by omega), hl, Nat.sub_self, hts]
  obtain ⟨m, hm⟩ : ∃ m, rows.length - k = m + 1 := ⟨rows.length - k - 1, by omega⟩
  have hm' : rows.length - (k + 1) = m := by omega
  rw [hm, hm', List.replicate_succ]
  simp

theorem sl2_cell {w : World} {base g n cap : Nat} {rows : List (List Int)} (h : Sl2 w base (.slice (some ⟨g, 0, none⟩) n cap) rows) {j : Nat} (hj : j < rows.length) :
    (∃ u, w.cell? ⟨g, j, none⟩ = some u) ∧ w.frozen? ⟨g, j, none⟩ = false ∧ base ≤ g ∧ g < w.heap.size := by
  obtain ⟨us, h1, h2, h3, h4, h5⟩ := h
  have hn : n = rows.length := by
    rcases h3.2 with ⟨hv, _⟩ | ⟨g', cap', cur, hv, _⟩
    · simp at hv
    · simp only [Value.slice.injEq] at hv
      exact hv.2.1
  subst hn
  refine ⟨⟨us[j]'(by omega), ?_⟩, h3.frozenAt j, h3.lt g rfl⟩
  rw [h3.cellAt j (by omega), List.getElem?_eq_getElem (by omega)]

def RetR (W : World) (rows : List (List Int)) (e : Ending) (w' : World) : Prop := ∃ v, e = .returned v ∧ Sl2 w' W.heap.size v rows ∧ Below W.heap.size W w'

set_option maxHeartbeats 800000 in
set_option maxRecDepth 100000 in
theorem to2_any (w : World) (v : Value) (rows : List (List Int)) (h : Rd2 w v rows) :
    Calls Try.prog 53 #[v] w (RetR w rows) := by
  obtain ⟨a, cap, rfl, hl, hc⟩ := h
  have HC := Lib.hid hc; clear hc
  go_enter Try.func53, Try.ntmps53
  go_wp2_with (at_make; refine wp_makeS rfl _ _ _ rfl Try.underlying23 .i64 .i64 _ _ rows.length rfl rfl rfl rfl hl ?_; intro w1 hs1 hb1)
  have HS := Lib.hid hs1; clear hs1
  go_loopw [4] (fun i wr => ∃ k : Nat, k ≤ rows.length ∧ i = .int .i64 k ∧ Sl2 wr w.heap.size (.slice (some ⟨w.heap.size, 0, none⟩) rows.length rows.length) (rows.take k ++ List.replicate (rows.length - k) []) ∧ Below w.heap.size w wr) (fun i _ => rows.length - (intOf i).toNat)
  case atStart => exact ⟨0, Nat.zero_le _, rfl, by simpa using HS.out, hb1⟩
  case round =>
    obtain ⟨k, hk, rfl, hs, hbel⟩ := hrel
    by_cases hlt : k < rows.length
    · obtain ⟨b, off, rfl, hb, hcell⟩ := HC.out k hlt
      obtain ⟨u, hu1, hu2⟩ := hcell k hlt
      have c1 : wr.cell? ⟨b, off + k, none⟩ = some u := (hbel.cell (p := ⟨b, off + k, none⟩) hb).trans hu1
      have hu3 := rd_below hbel hu2
      have hfill := rows_fill hlt
      obtain ⟨r, hrd⟩ : ∃ r, r = rows.getD k [] := ⟨_, rfl⟩
      rw [← hrd] at hu3 hfill
      have HFILL := Lib.hid hfill
      have HS2 := Lib.hid hs; clear hs hcell hu1 hu2 hrd hfill
      go_wp2_with fail
      refine (to_any _ _ _ hu3).mono ?_; rintro e w2 ⟨y, rfl, hs2, hb2⟩
      obtain ⟨ya, yc, rfl, _⟩ := sl_form hs2
      have hst := sl2_store HS2.out (k := k) (by simp; omega) hb2 hs2 hbel.size
      rw [HFILL.out] at hst
      obtain ⟨⟨z, c3⟩, c4, c5, _⟩ := sl2_cell (sl2_below hb2 HS2.out) (j := k) (by simp; omega)
      have HST := Lib.hid hst; clear hst hs2
      have hbel2 := hbel.trans (hb2.mono hbel.size)
      clear c1
      go_wp2
      go_roundw
      case rel => exact ⟨k + 1, by omega, by go_num, HST.out, hbel2.setCell (Nat.le_refl _) _⟩
      case measure => simp [intOf]; omega
    · obtain rfl : k = rows.length := by omega
      have HS2 := Lib.hid hs; clear hs
      go_wp2
      go_ret
      exact ⟨_, rfl, by simpa using HS2.out, hbel⟩

set_option maxHeartbeats 800000 in
set_option maxRecDepth 100000 in
theorem eq2_refl_any (w : World) (v1 v2 : Value) (rows : List (List Int)) (h1 : Rd2 w v1 rows) (h2 : Rd2 w v2 rows) :
    Calls Try.prog 58 #[v1, v2] w (RetB w true) := by
  obtain ⟨a, cap, rfl, hl, hc⟩ := h1
  obtain ⟨a2, cap2, rfl, hl2, hc2⟩ := h2
  have e1 : ((rows.length : Int) != (rows.length : Int)) = false := by simp
  have HC := Lib.hid hc; have HC2 := Lib.hid hc2; clear hc hc2
  go_enter Try.func58, Try.ntmps58
  go_wp2
  go_loopw [5] (fun i wr => ∃ k : Nat, k ≤ rows.length ∧ i = .int .i64 k ∧ Below w.heap.size w wr) (fun i _ => rows.length - (intOf i).toNat)
  case atStart => exact ⟨0, Nat.zero_le _, rfl, Below.refl _ _⟩
  case round =>
    obtain ⟨k, hk, rfl, hbel⟩ := hrel
    by_cases hlt : k < rows.length
    · obtain ⟨b, off, rfl, hb, hcell⟩ := HC.out k hlt
      obtain ⟨b2, off2, rfl, hb2, hcell2⟩ := HC2.out k hlt
      obtain ⟨u, hu1, hu2⟩ := hcell k hlt
      obtain ⟨u2, hv1, hv2⟩ := hcell2 k hlt
      have c1 : wr.cell? ⟨b, off + k, none⟩ = some u := (hbel.cell (p := ⟨b, off + k, none⟩) hb).trans hu1
      have c2 : wr.cell? ⟨b2, off2 + k, none⟩ = some u2 := (hbel.cell (p := ⟨b2, off2 + k, none⟩) hb2).trans hv1
      have r1 := rd_below hbel hu2
      have r2 := rd_below hbel hv2
      clear hcell hcell2 hu1 hv1 hu2 hv2
      have i0 : (0 : Int) ≤ (k : Int) := by omega
      have i1 : (k : Int) < (rows.length : Int) := by omega
      go_wp2
      go_still_tail 8, (by kernel_rfl)
      change wpList _ _ _ _ _ wr.drew
      have hb3 := hbel.drew
      have r1' : Rd wr.drew u (rows.getD k []) := r1
      have r2' : Rd wr.drew u2 (rows.getD k []) := r2
      clear c1 c2 r1 r2 hbel
      generalize wr.drew = w3 at r1' r2' hb3 ⊢
      go_wp2_with fail
      refine (eq_refl_any _ _ _ _ r1' r2').mono ?_; rintro e w4 ⟨rfl, hb4⟩
      go_wp2
      go_roundw
      case rel => exact ⟨k + 1, by omega, by go_num, hb3.trans (hb4.mono hb3.size)⟩
      case measure => simp [intOf]; omega
    · obtain rfl : k = rows.length := by omega
      go_wp2
      go_ret
      exact ⟨rfl, hbel⟩

end Go.Proofs.Ytakifeiemcldlaa