
/- The laws' own helpers for lists of lists: copying, comparing, writing over, what was written. | Which blocks a value lies in; what a call writes that writes lists over. | Which blocks a value owns, as a set of block numbers; values made of several parts own disjoint sets. -/
import Derived.Test.YtgkfampgofjkfaaIdx
import Derived.Test.YtgkfampgofjkfaaBase
import Derived.StillTailTactics
set_option linter.unusedSimpArgs false
set_option linter.unusedVariables false
set_option linter.unusedSectionVars false
namespace Go.Proofs.Ytgkfampgofjkfaa
open Go.RowKit

theorem cellsSS : Try.prog.cellsOf 23 = 1 := by kernel_rfl

theorem sl2_form {w : World} {base : Nat} {v : Value} {rows : List (List Int)} (h : Sl2 w base v rows) :
    ∃ (a : Option Addr) (cap : Nat), v = .slice a rows.length cap ∧ ∀ j, j < rows.length → ∃ g, a = some ⟨g, 0, none⟩ := by
  obtain ⟨us, _, hl, ⟨hlen, hor⟩, _⟩ := h
  rcases hor with ⟨hv, hn⟩ | ⟨g, cap, cur, hv, _⟩
  · exact ⟨none, 0, by rw [hv, hn], fun j hj => by omega⟩
  · exact ⟨some ⟨g, 0, none⟩, cap, hv, fun j hj => ⟨g, rfl⟩⟩

theorem own_below {w w' : World} {base : Nat} {e : TypeId} {sz : Nat} {v : Value} {n : Nat} {xs : List Value} (hb : Below w.heap.size w w') (h : w.ownsRow base e sz v n xs) : w'.ownsRow base e sz v n xs := by
  obtain ⟨h3, h4⟩ := h
  refine ⟨h3, ?_⟩
  rcases h4 with h | ⟨g, cap, cur, hv, hbb, hg, rest⟩
  · exact .inl h
  · exact .inr ⟨g, cap, cur, hv, hbb, by rw [hb.block g (Array.getElem?_eq_some_iff.1 hg).1]; exact hg, rest⟩

/-- 'make([][]int64, n)'. -/
theorem wp_makeS {w : World} {ops : Array Oper} {rest : List Oper} {o : Oper} {a : Act} {Q : Exit → Act → World → Prop}
    (hg : o.guard = none) (l c : Operand) (t : TypeId) (hop : o.op = Op.makeSlice t l c) (ht : Try.prog.underlying t = some (.slice 22))
    (kl kc : IntKind) (L C : Int) (n : Nat) (hl : a.eval l = .int kl L) (hc : a.eval c = .int kc C) (hL : L = (n : Int)) (hC : C = (n : Int)) (hn : n ≤ 5000000000000)
    (hK : ∀ w', Sl2 w' w.heap.size (.slice (some ⟨w.heap.size, 0, none⟩) n n) (List.replicate n []) → Below w.heap.size w w' → wpList Try.prog ops Q rest (a.put o.dst (.slice (some ⟨w.heap.size, 0, none⟩) n n)) w') :
    wpList Try.prog ops Q (o :: rest) a w := by
  obtain ⟨i, hi, hz, hs, hb⟩ := info_parts infoS
  refine wpList_make_full w hg l c t hop w.heap.size 22 i (.slice none 0 0) 1 ht hi hz hs kl kc L C n hl hc hL hC (by rw [hb]; omega) (by unfold maxLen; omega) (Nat.le_refl _) ?_
  intro w' hown hgrow
  have hone : (madeCells #[Value.slice none 0 0] n).toList = List.replicate n (.slice none 0 0) := by rw [toList_madeCells_one]
  refine hK w' ⟨List.replicate n (.slice none 0 0), by simp, by simpa using hn, ?_, fun j hj => ?_, fun j k hjk hk => ?_⟩ ((Below.refl _ _).grown hgrow (Nat.le_refl _) (by simp))
  · simp only [Value.cells, Nat.mul_one] at hown
    rw [hone] at hown
    simpa using hown
  · have hj' : j < n := by simpa using hj
    have e1 : (List.replicate n (Value.slice none 0 0)).getD j undef = .slice none 0 0 := by simp [List.getD_eq_getElem?_getD, hj']
    have e2 : (List.replicate n ([] : List Int)).getD j [] = [] := by simp [List.getD_eq_getElem?_getD, hj']
    rw [e1, e2]
    exact ⟨Sl.nil _ _, fun g hg => by simp [Value.ownBlock] at hg⟩
  · have hk' : k < n := by simpa using hk
    have e1 : (List.replicate n (Value.slice none 0 0)).getD j undef = .slice none 0 0 := by simp [List.getD_eq_getElem?_getD, show j < n by omega]
    rw [e1]
    exact fun g hg => by simp [Value.ownBlock] at hg

theorem getD_set2 {α : Type} (l : List α) (x : Nat) (z d : α) (y : Nat) (hx : x < l.length) : (l.set x z).getD y d = if y = x then z else l.getD y d := by
  simp only [List.getD_eq_getElem?_getD, List.getElem?_set]
  by_cases h : x = y
  · subst h; simp [hx]
  · rw [if_neg h, if_neg (fun e => h e.symm)]

/-- A new row is stored into a place of the list. -/
theorem sl2_store {w w1 : World} {base g n cap k : Nat} {rows : List (List Int)} {r : List Int} {u0 : Value} (h : Sl2 w base (.slice (some ⟨g, 0, none⟩) n cap) rows) (hk : k < rows.length)
    (hb : Below w.heap.size w w1) (hu : Sl w1 w.heap.size u0 r) (hbase : base ≤ w.heap.size) :
    Sl2 (w1.setCell ⟨g, k, none⟩ u0) base (.slice (some ⟨g, 0, none⟩) n cap) (rows.set k r) := by
  obtain ⟨us, h1, h2, h3, h4, h5⟩ := h
  have hg0 : g < w.heap.size := (h3.lt g rfl).2
  have hlt : ∀ i, i < rows.length → ∀ q, (us.getD i undef).ownBlock = some q → q < w.heap.size := fun i hi q hq => ((h4 i hi).1.1.lt q hq).2
  have hge : ∀ q, u0.ownBlock = some q → w.heap.size ≤ q := fun q hq => (hu.1.lt q hq).1
  have hn : n = rows.length := by
    rcases h3.2 with ⟨hv, _⟩ | ⟨g', cap', cur, hv, _⟩
    · simp at hv
    · simp only [Value.slice.injEq] at hv
      exact hv.2.1
  subst hn
  have hst := (own_below hb h3).stored k u0
  have hgr := hst.2
  have hne : ∀ v : Value, (∀ q, v.ownBlock = some q → q ≠ g) → v.ownBlock = none ∨ v.ownBlock ≠ some g := fun v hv => by
    cases hb0 : v.ownBlock with
    | none => exact .inl rfl
    | some q => exact .inr fun e => hv q hb0 (by simpa using e)
  have hu0 : Sl (w1.setCell ⟨g, k, none⟩ u0) base u0 r := (sl_kept hu hgr (hne u0 fun q hq => by have := hge q hq; omega)).mono hbase
  refine ⟨us.set k u0, by simp [h1], by simpa using h2, by simpa using hst.1, fun i hi => ?_, fun i j hij hj => ?_⟩
  · simp only [List.length_set] at hi
    rw [getD_set2 us k u0 undef i (by omega), getD_set2 rows k r [] i (by omega)]
    by_cases hik : i = k
    · rw [if_pos hik, if_pos hik]
      exact ⟨hu0, fun q hq hv => by
        simp only [Value.ownBlock, Option.some.injEq] at hv
        have := hge q hq
        omega⟩
    · rw [if_neg hik, if_neg hik]
      exact ⟨sl_kept (sl_below hb (h4 i hi).1) hgr (hne _ fun q hq e => (h4 i hi).2 q hq (by simp [Value.ownBlock, e])), (h4 i hi).2⟩
  · simp only [List.length_set] at hj
    rw [getD_set2 us k u0 undef i (by omega), getD_set2 us k u0 undef j (by omega)]
    by_cases hik : i = k
    · rw [if_pos hik, if_neg (by omega)]
      intro q hq hq2
      have := hge q hq
      have := hlt j hj q hq2
      omega
    · rw [if_neg hik]
      by_cases hjk : j = k
      · rw [if_pos hjk]
        intro q hq hq2
        have := hge q hq2
        have := hlt i (by omega) q hq
        omega
      · rw [if_neg hjk]
        exact h5 i j hij hj

theorem rows_fill {rows : List (List Int)} {k : Nat} (hk : k < rows.length) :
    (rows.take k ++ List.replicate (rows.length - k) []).set k (rows.getD k []) = rows.take (k + 1) ++ List.replicate (rows.length - (k + 1)) [] := by
  have hl : (rows.take k).length = k := by simp; omega
  have hts : rows.take (k + 1) = rows.take k ++ [rows.getD k []] := by
    rw [List.take_succ_eq_append_getElem hk]; simp [List.getD_eq_getElem?_getD, List.getElem?_eq_getElem hk]
  rw [List.set_append, if_neg (by omega), hl, Nat.sub_self, hts]
  obtain ⟨m, hm⟩ : ∃ m, rows.length - k = m + 1 := ⟨rows.length - k - 1, by omega⟩
  have hm' : rows.length - (k + 1) = m := by omega
  rw [hm, hm', List.replicate_succ]
  simp

theorem sl2_cell {w : World} {base g n cap : Nat} {rows : List (List Int)} (h : Sl2 w base (.slice (some ⟨g, 0, none⟩) n cap) rows) {j : Nat} (hj : j < rows.length) :
    (∃ u, w.cell? ⟨g, j, none⟩ = some u) ∧ w.frozen? ⟨g, j, none⟩ = false ∧ base ≤ g ∧ g < w.heap.size := by
  obtain ⟨us, h1, h2, h3, h4, h5⟩ := h
  have hn : n = rows.length := by
    rcases h3.2 with ⟨hv, _⟩ | ⟨g', cap', cur, hv, _⟩
    · simp at hv
    · simp only [Value.slice.injEq] at hv
      exact hv.2.1
  subst hn
  refine ⟨⟨us[j]'(by omega), ?_⟩, h3.frozenAt j, h3.lt g rfl⟩
  rw [h3.cellAt j (by omega), List.getElem?_eq_getElem (by omega)]

def RetR (W : World) (rows : List (List Int)) (e : Ending) (w' : World) : Prop := ∃ v, e = .returned v ∧ Sl2 w' W.heap.size v rows ∧ Below W.heap.size W w'

set_option maxHeartbeats 800000 in
set_option maxRecDepth 100000 in
theorem to2_any (w : World) (v : Value) (rows : List (List Int)) (h : Rd2 w v rows) :
    Calls Try.prog 37 #[v] w (RetR w rows) := by
  obtain ⟨a, cap, rfl, hl, hc⟩ := h
  have HC := Lib.hid hc; clear hc
  go_enter Try.func37, Try.ntmps37
  go_wp2_with (at_make; refine wp_makeS rfl _ _ _ rfl Try.underlying23 .i64 .i64 _ _ rows.length rfl rfl rfl rfl hl ?_; intro w1 hs1 hb1)
  have HS := Lib.hid hs1; clear hs1
  go_loopw [4] (fun i wr => ∃ k : Nat, k ≤ rows.length ∧ i = .int .i64 k ∧ Sl2 wr w.heap.size (.slice (some ⟨w.heap.size, 0, none⟩) rows.length rows.length) (rows.take k ++ List.replicate (rows.length - k) []) ∧ Below w.heap.size w wr) (fun i _ => rows.length - (intOf i).toNat)
  case atStart => exact ⟨0, Nat.zero_le _, rfl, by simpa using HS.out, hb1⟩
  case round =>
    obtain ⟨k, hk, rfl, hs, hbel⟩ := hrel
    by_cases hlt : k < rows.length
    · obtain ⟨b, off, rfl, hb, hcell⟩ := HC.out k hlt
      obtain ⟨u, hu1, hu2⟩ := hcell k hlt
      have c1 : wr.cell? ⟨b, off + k, none⟩ = some u := (hbel.cell (p := ⟨b, off + k, none⟩) hb).trans hu1
      have hu3 := rd_below hbel hu2
      have hfill := rows_fill hlt
      obtain ⟨r, hrd⟩ : ∃ r, r = rows.getD k [] := ⟨_, rfl⟩
      rw [← hrd] at hu3 hfill
      have HFILL := Lib.hid hfill
      have HS2 := Lib.hid hs; clear hs hcell hu1 hu2 hrd hfill
      go_wp2_with fail
      refine (to_any _ _ _ hu3).mono ?_; rintro e w2 ⟨y, rfl, hs2, hb2⟩
      obtain ⟨ya, yc, rfl, _⟩ := sl_form hs2
      have hst := sl2_store HS2.out (k := k) (by simp; omega) hb2 hs2 hbel.size
      rw [HFILL.out] at hst
      obtain ⟨⟨z, c3⟩, c4, c5, _⟩ := sl2_cell (sl2_below hb2 HS2.out) (j := k) (by simp; omega)
      have HST := Lib.hid hst; clear hst hs2
      have hbel2 := hbel.trans (hb2.mono hbel.size)
      clear c1
      go_wp2
      go_roundw
      case rel => exact ⟨k + 1, by omega, by go_num, HST.out, hbel2.setCell (Nat.le_refl _) _⟩
      case measure => simp [intOf]; omega
    · obtain rfl : k = rows.length := by omega
      have HS2 := Lib.hid hs; clear hs
      go_wp2
      go_ret
      exact ⟨_, rfl, by simpa using HS2.out, hbel⟩

set_option maxHeartbeats 800000 in
set_option maxRecDepth 100000 in
theorem eq2_refl_any (w : World) (v1 v2 : Value) (rows : List (List Int)) (h1 : Rd2 w v1 rows) (h2 : Rd2 w v2 rows) :
    Calls Try.prog 44 #[v1, v2] w (RetB w true) := by
  obtain ⟨a, cap, rfl, hl, hc⟩ := h1
  obtain ⟨a2, cap2, rfl, hl2, hc2⟩ := h2
  have e1 : ((rows.length : Int) != (rows.length : Int)) = false := by simp
  have HC := Lib.hid hc; have HC2 := Lib.hid hc2; clear hc hc2
  go_enter Try.func44, Try.ntmps44
  go_wp2
  go_loopw [5] (fun i wr => ∃ k : Nat, k ≤ rows.length ∧ i = .int .i64 k ∧ Below w.heap.size w wr) (fun i _ => rows.length - (intOf i).toNat)
  case atStart => exact ⟨0, Nat.zero_le _, rfl, Below.refl _ _⟩
  case round =>
    obtain ⟨k, hk, rfl, hbel⟩ := hrel
    by_cases hlt : k < rows.length
    · obtain ⟨b, off, rfl, hb, hcell⟩ := HC.out k hlt
      obtain ⟨b2, off2, rfl, hb2, hcell2⟩ := HC2.out k hlt
      obtain ⟨u, hu1, hu2⟩ := hcell k hlt
      obtain ⟨u2, hv1, hv2⟩ := hcell2 k hlt
      have c1 : wr.cell? ⟨b, off + k, none⟩ = some u := (hbel.cell (p := ⟨b, off + k, none⟩) hb).trans hu1
      have c2 : wr.cell? ⟨b2, off2 + k, none⟩ = some u2 := (hbel.cell (p := ⟨b2, off2 + k, none⟩) hb2).trans hv1
      have r1 := rd_below hbel hu2
      have r2 := rd_below hbel hv2
      clear hcell hcell2 hu1 hv1 hu2 hv2
      have i0 : (0 : Int) ≤ (k : Int) := by omega
      have i1 : (k : Int) < (rows.length : Int) := by omega
      go_wp2
      go_still_tail 8, (by kernel_rfl)
      change wpList _ _ _ _ _ wr.drew
      have hb3 := hbel.drew
      have r1' : Rd wr.drew u (rows.getD k []) := r1
      have r2' : Rd wr.drew u2 (rows.getD k []) := r2
      clear c1 c2 r1 r2 hbel
      generalize wr.drew = w3 at r1' r2' hb3 ⊢
      go_wp2_with fail
      refine (eq_refl_any _ _ _ _ r1' r2').mono ?_; rintro e w4 ⟨rfl, hb4⟩
      go_wp2
      go_roundw
      case rel => exact ⟨k + 1, by omega, by go_num, hb3.trans (hb4.mono hb3.size)⟩
      case measure => simp [intOf]; omega
    · obtain rfl : k = rows.length := by omega
      go_wp2
      go_ret
      exact ⟨rfl, hbel⟩

end Go.Proofs.Ytgkfampgofjkfaa

namespace Go.Proofs.Ytgkfampgofjkfaa
open Go.RowKit

/-- Outside the blocks lo, .., hi - 1 the world is as it was. -/
structure Fr (lo hi : Nat) (w w' : World) : Prop where
  os : w'.os = w.os
  tape : w'.tape = w.tape
  output : w'.output = w.output
  size : w.heap.size ≤ w'.heap.size
  block : ∀ k, k < w.heap.size → (k < lo ∨ hi ≤ k) → w'.heap[k]? = w.heap[k]?

theorem Fr.refl (lo hi : Nat) (w : World) : Fr lo hi w w := ⟨rfl, rfl, rfl, Nat.le_refl _, fun _ _ _ => rfl⟩
theorem Fr.trans {lo hi : Nat} {a b c : World} (h : Fr lo hi a b) (k : Fr lo hi b c) : Fr lo hi a c :=
  ⟨k.os.trans h.os, k.tape.trans h.tape, k.output.trans h.output, Nat.le_trans h.size k.size, fun i hi' hr => (k.block i (Nat.lt_of_lt_of_le hi' h.size) hr).trans (h.block i hi' hr)⟩

theorem fr_grown {lo hi : Nat} {w w' : World} {v : Value} (hg : w.grownBy w' v.ownBlock) (hv : ∀ q, v.ownBlock = some q → lo ≤ q ∧ q < hi) : Fr lo hi w w' :=
  ⟨hg.os, hg.tape, hg.output, hg.size, fun k hk hr => hg.block k hk fun e => by have := hv k e.symm; omega⟩

theorem below_fr {B : Nat} {W w w' : World} {lo hi : Nat} (hb : Below B W w) (hf : Fr lo hi w w') (hB : B ≤ W.heap.size) (hlo : B ≤ lo) : Below B W w' :=
  hb.trans ⟨hf.os, hf.tape, hf.output, hf.size, fun k hk => hf.block k (by have := hb.size; omega) (.inl (by omega))⟩

def Slh (w : World) (lo hi : Nat) (v : Value) (xs : List Int) : Prop := Sl w lo v xs ∧ ∀ q, v.ownBlock = some q → q < hi

def Sl2h (w : World) (lo hi : Nat) (v : Value) (rows : List (List Int)) : Prop :=
  ∃ us : List Value, us.length = rows.length ∧ rows.length ≤ 5000000000000 ∧ w.ownsRow lo 22 1 v rows.length us ∧
    (∀ i, i < rows.length → Sl w lo (us.getD i undef) (rows.getD i []) ∧ Apart (us.getD i undef) v ∧ ∀ q, (us.getD i undef).ownBlock = some q → q < hi) ∧
    (∀ i j, i < j → j < rows.length → Apart (us.getD i undef) (us.getD j undef)) ∧ ∀ q, v.ownBlock = some q → q < hi

theorem slh_of {w : World} {lo : Nat} {v : Value} {xs : List Int} (h : Sl w lo v xs) : Slh w lo w.heap.size v xs := ⟨h, fun q hq => (h.1.lt q hq).2⟩
theorem sl2h_of {w : World} {lo : Nat} {v : Value} {rows : List (List Int)} (h : Sl2 w lo v rows) : Sl2h w lo w.heap.size v rows := by
  obtain ⟨us, h1, h2, h3, h4, h5⟩ := h
  exact ⟨us, h1, h2, h3, fun i hi => ⟨(h4 i hi).1, (h4 i hi).2, fun q hq => ((h4 i hi).1.1.lt q hq).2⟩, h5, fun q hq => (h3.lt q hq).2⟩
theorem sl2h_sl2 {w : World} {lo hi : Nat} {v : Value} {rows : List (List Int)} (h : Sl2h w lo hi v rows) : Sl2 w lo v rows := by
  obtain ⟨us, h1, h2, h3, h4, h5, _⟩ := h
  exact ⟨us, h1, h2, h3, fun i hi => ⟨(h4 i hi).1, (h4 i hi).2.1⟩, h5⟩
theorem Slh.rd {w : World} {lo hi : Nat} {v : Value} {xs : List Int} (h : Slh w lo hi v xs) : Rd w v xs := h.1.rd
theorem Sl2h.rd {w : World} {lo hi : Nat} {v : Value} {rows : List (List Int)} (h : Sl2h w lo hi v rows) : Rd2 w v rows := sl2_rd (sl2h_sl2 h)

theorem slh_below {w w' : World} {lo hi : Nat} {v : Value} {xs : List Int} (hb : Below w.heap.size w w') (h : Slh w lo hi v xs) : Slh w' lo hi v xs := ⟨sl_below hb h.1, h.2⟩
theorem sl2h_below {w w' : World} {lo hi : Nat} {v : Value} {rows : List (List Int)} (hb : Below w.heap.size w w') (h : Sl2h w lo hi v rows) : Sl2h w' lo hi v rows := by
  obtain ⟨us, h1, h2, h3, h4, h5, h6⟩ := h
  exact ⟨us, h1, h2, own_below hb h3, fun i hi => ⟨sl_below hb (h4 i hi).1, (h4 i hi).2⟩, h5, h6⟩

theorem own_fr {w w' : World} {lo hi base : Nat} {e : TypeId} {sz : Nat} {v : Value} {n : Nat} {xs : List Value} (hf : Fr lo hi w w') (h : w.ownsRow base e sz v n xs) (hv : ∀ q, v.ownBlock = some q → q < lo ∨ hi ≤ q) : w'.ownsRow base e sz v n xs := by
  obtain ⟨h3, h4⟩ := h
  refine ⟨h3, ?_⟩
  rcases h4 with h | ⟨g, cap, cur, rfl, hbb, hg, rest⟩
  · exact .inl h
  · exact .inr ⟨g, cap, cur, rfl, hbb, by rw [hf.block g (Array.getElem?_eq_some_iff.1 hg).1 (hv g rfl)]; exact hg, rest⟩

theorem slh_fr {w w' : World} {lo hi l h : Nat} {v : Value} {xs : List Int} (hf : Fr lo hi w w') (hs : Slh w l h v xs) (hd : h ≤ lo ∨ hi ≤ l) : Slh w' l h v xs :=
  ⟨⟨own_fr hf hs.1.1 fun q hq => by have := hs.2 q hq; have := (hs.1.1.lt q hq).1; omega, hs.1.2⟩, hs.2⟩
theorem sl2h_fr {w w' : World} {lo hi l h : Nat} {v : Value} {rows : List (List Int)} (hf : Fr lo hi w w') (hs : Sl2h w l h v rows) (hd : h ≤ lo ∨ hi ≤ l) : Sl2h w' l h v rows := by
  obtain ⟨us, h1, h2, h3, h4, h5, h6⟩ := hs
  refine ⟨us, h1, h2, own_fr hf h3 fun q hq => by have := h6 q hq; have := (h3.lt q hq).1; omega, fun i hi' => ⟨?_, (h4 i hi').2⟩, h5, h6⟩
  have hi2 := h4 i hi'
  exact ⟨own_fr hf hi2.1.1 fun q hq => by have := hi2.2.2 q hq; have := (hi2.1.1.lt q hq).1; omega, hi2.1.2⟩

theorem markh_any (w : World) (lo hi : Nat) (v : Value) (xs : List Int) (k0 : Int) (h : Slh w lo hi v xs) (hk0 : 0 ≤ k0) (hk1 : k0 ≤ 1152921504606846976) :
    Calls Try.prog 16 #[v, .int .i64 k0] w (fun e w' => e = .returned (.int .i64 (k0 + xs.length)) ∧ Slh w' lo hi v (upTo k0 xs.length) ∧ Fr lo hi w w') :=
  (mark_any w lo v xs k0 h.1 hk0 hk1).mono fun _ _ ⟨h1, h2, h3⟩ => ⟨h1, ⟨h2, h.2⟩, fr_grown h3 fun q hq => ⟨(h.1.1.lt q hq).1, h.2 q hq⟩⟩

/-- How many numbers stand in the first j rows. -/
def offR (rows : List (List Int)) : Nat → Nat
  | 0 => 0
  | j + 1 => offR rows j + (rows.getD j []).length
def mk2 (k0 : Int) (rows : List (List Int)) (i : Nat) : List (List Int) := (List.range rows.length).map fun j => if j < i then upTo (k0 + (offR rows j : Int)) (rows.getD j []).length else rows.getD j []
theorem mk2_len (k0 : Int) (rows : List (List Int)) (i : Nat) : (mk2 k0 rows i).length = rows.length := by simp [mk2]
theorem mk2_getD {k0 : Int} {rows : List (List Int)} {i j : Nat} (hj : j < rows.length) : (mk2 k0 rows i).getD j [] = if j < i then upTo (k0 + (offR rows j : Int)) (rows.getD j []).length else rows.getD j [] := by
  simp [mk2, List.getD_eq_getElem?_getD, hj]
theorem mk2_zero (k0 : Int) (rows : List (List Int)) : mk2 k0 rows 0 = rows := by
  apply List.ext_getElem (by simp [mk2])
  intro i h1 h2
  simp [mk2, List.getD_eq_getElem?_getD, h2]
theorem offR_mono (rows : List (List Int)) : ∀ i j, i ≤ j → offR rows i ≤ offR rows j := by
  intro i j h
  induction j with
  | zero => have : i = 0 := by omega
            subst this; exact Nat.le_refl _
  | succ j ih =>
    by_cases he : i = j + 1
    · subst he; exact Nat.le_refl _
    · have := ih (by omega)
      simp only [offR]
      omega

set_option maxHeartbeats 800000 in
set_option maxRecDepth 100000 in
theorem mark2_any (w : World) (lo hi : Nat) (v : Value) (rows : List (List Int)) (k0 : Int) (h : Sl2h w lo hi v rows) (hk0 : 0 ≤ k0) (hk1 : k0 + (offR rows rows.length : Int) ≤ 1152921504606846976) :
    Calls Try.prog 45 #[v, .int .i64 k0] w (fun e w' => e = .returned (.int .i64 (k0 + (offR rows rows.length : Int))) ∧ Sl2h w' lo hi v (mk2 k0 rows rows.length) ∧ Fr lo hi w w') := by
  obtain ⟨a, cap, rfl, hf⟩ := sl2_form (sl2h_sl2 h)
  have HF := Lib.hid hf; clear hf
  have hrl : rows.length ≤ 5000000000000 := by obtain ⟨us, _, h2, _⟩ := h; exact h2
  have H := Lib.hid h; clear h
  have HMONO := Lib.hid (offR_mono rows)
  go_enter Try.func45, Try.ntmps45
  go_wp2
  go_loopw [1, 5] (fun c i wr => ∃ k : Nat, k ≤ rows.length ∧ i = .int .i64 k ∧ c = .int .i64 (k0 + (offR rows k : Int)) ∧ Sl2h wr lo hi (.slice a rows.length cap) (mk2 k0 rows k) ∧ Fr lo hi w wr) (fun _ i _ => rows.length - (intOf i).toNat)
  case atStart => exact ⟨0, Nat.zero_le _, rfl, by simp [offR], by rw [mk2_zero]; exact H.out, Fr.refl _ _ _⟩
  case round =>
    obtain ⟨k, hk, rfl, rfl, hs, hfr⟩ := hrel
    by_cases hlt : k < rows.length
    · obtain ⟨g, rfl⟩ := HF.out k hlt
      obtain ⟨us, h1, h2, h3, h4, h5, h6⟩ := hs
      rw [mk2_len] at h1 h2 h3 h4 h5
      have hrow := h4 k hlt
      rw [mk2_getD hlt, if_neg (Nat.lt_irrefl _)] at hrow
      have c1 : wr.cell? ⟨g, k, none⟩ = some (us.getD k undef) := by
        rw [h3.cellAt k (by omega), List.getD_eq_getElem?_getD, List.getElem?_eq_getElem (by omega)]; rfl
      have hm1 := HMONO.out (k + 1) rows.length (by omega)
      have hoff : offR rows (k + 1) = offR rows k + (rows.getD k []).length := rfl
      obtain ⟨ra, rc, hrv, _⟩ := sl_form hrow.1
      obtain ⟨u, hu⟩ : ∃ u, u = us.getD k undef := ⟨_, rfl⟩
      rw [← hu] at c1 hrow hrv
      obtain ⟨r, hr⟩ : ∃ r, r = rows.getD k [] := ⟨_, rfl⟩
      rw [← hr] at hrow hoff hrv
      obtain ⟨n, hn⟩ : ∃ n, n = offR rows k := ⟨_, rfl⟩
      rw [← hn] at hoff
      rw [← hn]
      have HU := Lib.hid hu; have HR := Lib.hid hr; have HN := Lib.hid hn; have HOFF := Lib.hid hoff; have HROW := Lib.hid hrow
      have hkn : k0 + (n : Int) + (r.length : Int) ≤ 1152921504606846976 := by omega
      have H3 := Lib.hid h3; have H4 := Lib.hid h4; have H5 := Lib.hid h5; have H1 := Lib.hid h1; have H6 := Lib.hid h6
      clear hu hr hn hoff hrow h3 h4 h5 h1 h6 hm1 hrv
      go_wp2_with fail
      refine (mark_any _ lo _ r (k0 + (n : Int)) HROW.out.1 (by omega) (by omega)).mono ?_; rintro e w2 ⟨rfl, hs2, hg2⟩
      have hnew : Sl2h w2 lo hi (.slice (some ⟨g, 0, none⟩) rows.length cap) (mk2 k0 rows (k + 1)) := by
        refine ⟨us, by rw [mk2_len]; exact H1.out, by rw [mk2_len]; exact hrl, by rw [mk2_len]; exact H3.out.kept hg2 (.inr fun e => HROW.out.2.1 g e.symm rfl), fun i hi' => ?_, fun i j hij hj => ?_, H6.out⟩
        · rw [mk2_len] at hi'
          rw [mk2_getD hi']
          have hold := H4.out i hi'
          rw [mk2_getD hi'] at hold
          by_cases hik : i = k
          · subst hik
            rw [if_pos (by omega), ← HU.out, ← HR.out, ← HN.out]
            exact ⟨hs2, HROW.out.2⟩
          · have e1 : (i < k + 1) = (i < k) := by rw [eq_iff_iff]; omega
            simp only [e1]
            refine ⟨sl_kept hold.1 hg2 (apart_ne ?_), hold.2⟩
            rw [HU.out]
            rcases Nat.lt_or_ge i k with h | h
            · exact H5.out i k h hlt
            · exact (H5.out k i (by omega) hi').symm
        · rw [mk2_len] at hj
          exact H5.out i j hij hj
      have hfr2 := hfr.trans (fr_grown (lo := lo) (hi := hi) hg2 fun q hq => ⟨(HROW.out.1.1.lt q hq).1, HROW.out.2.2 q hq⟩)
      have HNEW := Lib.hid hnew; clear hnew hs2 hfr hg2
      go_wp2
      go_roundw
      case rel => exact ⟨k + 1, by omega, by go_num, by rw [HOFF.out]; go_num, HNEW.out, hfr2⟩
      case measure => simp [intOf]; omega
    · obtain rfl : k = rows.length := by omega
      go_wp2
      go_ret
      exact ⟨rfl, hs, hfr⟩

set_option maxHeartbeats 800000 in
set_option maxRecDepth 100000 in
theorem held2_any (w : World) (v : Value) (rows : List (List Int)) (k0 : Int) (h : Rd2 w v (mk2 k0 rows rows.length)) (hk0 : 0 ≤ k0) (hk1 : k0 + (offR rows rows.length : Int) ≤ 1152921504606846976) :
    Calls Try.prog 46 #[v, .int .i64 k0] w (RetI w (k0 + (offR rows rows.length : Int))) := by
  obtain ⟨a, cap, rfl, hl, hc⟩ := h
  have hle := mk2_len k0 rows rows.length
  rw [hle] at hl hc ⊢
  have HC := Lib.hid hc; clear hc hle
  have HMONO := Lib.hid (offR_mono rows)
  go_enter Try.func46, Try.ntmps46
  go_wp2
  go_loopw [1, 5] (fun c i wr => ∃ k : Nat, k ≤ rows.length ∧ i = .int .i64 k ∧ c = .int .i64 (k0 + (offR rows k : Int)) ∧ Below w.heap.size w wr) (fun _ i _ => rows.length - (intOf i).toNat)
  case atStart => exact ⟨0, Nat.zero_le _, rfl, by simp [offR], Below.refl _ _⟩
  case round =>
    obtain ⟨k, hk, rfl, rfl, hbel⟩ := hrel
    by_cases hlt : k < rows.length
    · obtain ⟨b, off, rfl, hb, hcell⟩ := HC.out k hlt
      obtain ⟨u, hu1, hu2⟩ := hcell k hlt
      rw [mk2_getD hlt, if_pos hlt] at hu2
      have c1 : wr.cell? ⟨b, off + k, none⟩ = some u := (hbel.cell (p := ⟨b, off + k, none⟩) hb).trans hu1
      have hr := rd_below hbel hu2
      have hm1 := HMONO.out (k + 1) rows.length (by omega)
      have hoff : offR rows (k + 1) = offR rows k + (rows.getD k []).length := rfl
      obtain ⟨r, hrd⟩ : ∃ r, r = rows.getD k [] := ⟨_, rfl⟩
      rw [← hrd] at hr hoff
      obtain ⟨n, hn⟩ : ∃ n, n = offR rows k := ⟨_, rfl⟩
      rw [← hn] at hoff hr
      rw [← hn]
      have hkn : k0 + (n : Int) + (r.length : Int) ≤ 1152921504606846976 := by omega
      have HOFF := Lib.hid hoff; clear hoff hm1 hrd hn hcell hu1 hu2
      go_wp2_with fail
      refine (held_any _ _ r.length (k0 + (n : Int)) hr (by omega) (by omega)).mono ?_; rintro e w2 ⟨rfl, hb2⟩
      go_wp2
      go_roundw
      case rel => exact ⟨k + 1, by omega, by go_num, by rw [HOFF.out]; go_num, hbel.trans (hb2.mono hbel.size)⟩
      case measure => simp [intOf]; omega
    · obtain rfl : k = rows.length := by omega
      go_wp2
      go_ret
      exact ⟨rfl, hbel⟩

end Go.Proofs.Ytgkfampgofjkfaa

namespace Go.Proofs.Ytgkfampgofjkfaa
open Go.RowKit

def Agree (S : Nat → Prop) (w w' : World) : Prop := ∀ k, k < w.heap.size → S k → w'.heap[k]? = w.heap[k]?

/-- Outside the blocks of S the world is as it was. -/
structure FrS (S : Nat → Prop) (w w' : World) : Prop where
  os : w'.os = w.os
  tape : w'.tape = w.tape
  output : w'.output = w.output
  size : w.heap.size ≤ w'.heap.size
  block : ∀ k, k < w.heap.size → ¬ S k → w'.heap[k]? = w.heap[k]?

theorem FrS.refl (S : Nat → Prop) (w : World) : FrS S w w := ⟨rfl, rfl, rfl, Nat.le_refl _, fun _ _ _ => rfl⟩
theorem FrS.trans {S : Nat → Prop} {a b c : World} (h : FrS S a b) (k : FrS S b c) : FrS S a c :=
  ⟨k.os.trans h.os, k.tape.trans h.tape, k.output.trans h.output, Nat.le_trans h.size k.size, fun i hi' hr => (k.block i (Nat.lt_of_lt_of_le hi' h.size) hr).trans (h.block i hi' hr)⟩
theorem FrS.mono {S T : Nat → Prop} {a b : World} (h : FrS S a b) (hs : ∀ k, S k → T k) : FrS T a b :=
  ⟨h.os, h.tape, h.output, h.size, fun i hi hr => h.block i hi fun e => hr (hs i e)⟩
theorem frS_grown {S : Nat → Prop} {w w' : World} {v : Value} (hg : w.grownBy w' v.ownBlock) (hv : ∀ q, v.ownBlock = some q → S q) : FrS S w w' :=
  ⟨hg.os, hg.tape, hg.output, hg.size, fun k hk hr => hg.block k hk fun e => hr (hv k e.symm)⟩
theorem frS_below {B : Nat} {w w' : World} (hb : Below B w w') : FrS (fun k => B ≤ k) w w' :=
  ⟨hb.os, hb.tape, hb.output, hb.size, fun k _ hr => hb.block k (by omega)⟩
theorem below_frS {B : Nat} {W w w' : World} {S : Nat → Prop} (hb : Below B W w) (hf : FrS S w w') (hB : B ≤ W.heap.size) (hlo : ∀ k, S k → B ≤ k) : Below B W w' :=
  hb.trans ⟨hf.os, hf.tape, hf.output, hf.size, fun k hk => hf.block k (by have := hb.size; omega) (fun e => by have := hlo k e; omega)⟩
theorem agree_frS {S T : Nat → Prop} {w w' : World} (hf : FrS S w w') (h : ∀ k, S k → ¬ T k) : Agree T w w' := fun k hk ht => hf.block k hk fun e => h k e ht
theorem agree_below {S : Nat → Prop} {w w' : World} (hb : Below w.heap.size w w') : Agree S w w' := fun k hk _ => hb.block k hk
theorem agree_refl {S : Nat → Prop} {w : World} : Agree S w w := fun _ _ _ => rfl

/-- What is said of a world and a set of blocks holds in each world that has the blocks of the set, and of each greater set; the blocks are there. -/
structure Loc (P : World → (Nat → Prop) → Prop) : Prop where
  keep : ∀ {w w' : World} {S S' : Nat → Prop}, (∀ k, k < w.heap.size → S k → S' k) → Agree S w w' → P w S → P w' S'

theorem Loc.fin {P : World → (Nat → Prop) → Prop} (h : Loc P) {w : World} {S : Nat → Prop} (hp : P w S) : P w (fun k => S k ∧ k < w.heap.size) :=
  h.keep (fun _ hk hs => ⟨hs, hk⟩) agree_refl hp

def Own1 (v : Value) (xs : List Int) (w : World) (S : Nat → Prop) : Prop := Sl w 0 v xs ∧ ∀ q, v.ownBlock = some q → S q
def Own2 (v : Value) (rows : List (List Int)) (w : World) (S : Nat → Prop) : Prop :=
  ∃ us : List Value, us.length = rows.length ∧ rows.length ≤ 5000000000000 ∧ w.ownsRow 0 22 1 v rows.length us ∧
    (∀ i, i < rows.length → Sl w 0 (us.getD i undef) (rows.getD i []) ∧ Apart (us.getD i undef) v ∧ ∀ q, (us.getD i undef).ownBlock = some q → S q) ∧
    (∀ i j, i < j → j < rows.length → Apart (us.getD i undef) (us.getD j undef)) ∧ ∀ q, v.ownBlock = some q → S q
/-- Two things in disjoint blocks. -/
def Sep (A B : World → (Nat → Prop) → Prop) (w : World) (S : Nat → Prop) : Prop :=
  ∃ S1 S2 : Nat → Prop, (∀ k, S1 k → S k) ∧ (∀ k, S2 k → S k) ∧ (∀ k, S1 k → ¬ S2 k) ∧ A w S1 ∧ B w S2

theorem own_agree {w w' : World} {base : Nat} {e : TypeId} {sz : Nat} {v : Value} {n : Nat} {xs : List Value} (h : w.ownsRow base e sz v n xs) (hk : ∀ q, q < w.heap.size → v.ownBlock = some q → w'.heap[q]? = w.heap[q]?) : w'.ownsRow base e sz v n xs := by
  obtain ⟨h3, h4⟩ := h
  refine ⟨h3, ?_⟩
  rcases h4 with h | ⟨g, cap, cur, rfl, hbb, hg, rest⟩
  · exact .inl h
  · exact .inr ⟨g, cap, cur, rfl, hbb, by rw [hk g (Array.getElem?_eq_some_iff.1 hg).1 rfl]; exact hg, rest⟩

theorem own1_loc (v : Value) (xs : List Int) : Loc (Own1 v xs) where
  keep hs ha h := ⟨⟨own_agree h.1.1 fun q hq e => ha q hq (h.2 q e), h.1.2⟩, fun q hq => hs q (h.1.1.lt q hq).2 (h.2 q hq)⟩

theorem own2_loc (v : Value) (rows : List (List Int)) : Loc (Own2 v rows) where
  keep hs ha h := by
    obtain ⟨us, h1, h2, h3, h4, h5, h6⟩ := h
    exact ⟨us, h1, h2, own_agree h3 fun q hq e => ha q hq (h6 q e), fun i hi => ⟨⟨own_agree (h4 i hi).1.1 fun q hq e => ha q hq ((h4 i hi).2.2 q e), (h4 i hi).1.2⟩, (h4 i hi).2.1, fun q hq => hs q ((h4 i hi).1.1.lt q hq).2 ((h4 i hi).2.2 q hq)⟩, h5, fun q hq => hs q (h3.lt q hq).2 (h6 q hq)⟩

theorem sep_loc {A B : World → (Nat → Prop) → Prop} (ha : Loc A) (hb : Loc B) : Loc (Sep A B) where
  keep {w w' S S'} hs hag h := by
    obtain ⟨S1, S2, k1, k2, hd, h1, h2⟩ := h
    refine ⟨fun k => S1 k ∧ k < w.heap.size, fun k => S2 k ∧ k < w.heap.size, fun k h => hs k h.2 (k1 k h.1), fun k h => hs k h.2 (k2 k h.1), fun k a b => hd k a.1 b.1, ?_, ?_⟩
    · exact ha.keep (fun _ hk hs => ⟨hs, hk⟩) (fun k hk hh => hag k hk (k1 k hh)) h1
    · exact hb.keep (fun _ hk hs => ⟨hs, hk⟩) (fun k hk hh => hag k hk (k2 k hh)) h2

theorem Own1.rd {w : World} {S : Nat → Prop} {v : Value} {xs : List Int} (h : Own1 v xs w S) : Rd w v xs := h.1.rd
theorem Own2.sl {w : World} {S : Nat → Prop} {v : Value} {rows : List (List Int)} (h : Own2 v rows w S) : Sl2 w 0 v rows := by
  obtain ⟨us, h1, h2, h3, h4, h5, _⟩ := h
  exact ⟨us, h1, h2, h3, fun i hi => ⟨(h4 i hi).1, (h4 i hi).2.1⟩, h5⟩
theorem Own2.rd {w : World} {S : Nat → Prop} {v : Value} {rows : List (List Int)} (h : Own2 v rows w S) : Rd2 w v rows := sl2_rd h.sl

theorem own1_of {w : World} {lo : Nat} {v : Value} {xs : List Int} (h : Sl w lo v xs) : Own1 v xs w (fun k => lo ≤ k) := ⟨h.mono (Nat.zero_le _), fun q hq => (h.1.lt q hq).1⟩
theorem own_base {w : World} {lo : Nat} {e : TypeId} {sz : Nat} {v : Value} {n : Nat} {xs : List Value} (h : w.ownsRow lo e sz v n xs) : w.ownsRow 0 e sz v n xs := by
  obtain ⟨h3, h4⟩ := h
  refine ⟨h3, ?_⟩
  rcases h4 with h | ⟨g, cap, cur, rfl, hbb, rest⟩
  · exact .inl h
  · exact .inr ⟨g, cap, cur, rfl, Nat.zero_le _, rest⟩
theorem own2_of {w : World} {lo : Nat} {v : Value} {rows : List (List Int)} (h : Sl2 w lo v rows) : Own2 v rows w (fun k => lo ≤ k) := by
  obtain ⟨us, h1, h2, h3, h4, h5⟩ := h
  exact ⟨us, h1, h2, own_base h3, fun i hi => ⟨(h4 i hi).1.mono (Nat.zero_le _), (h4 i hi).2, fun q hq => ((h4 i hi).1.1.lt q hq).1⟩, h5, fun q hq => (h3.lt q hq).1⟩

theorem own_lift {w : World} {lo : Nat} {e : TypeId} {sz : Nat} {v : Value} {n : Nat} {xs : List Value} (h : w.ownsRow 0 e sz v n xs) (hq : ∀ q, v.ownBlock = some q → lo ≤ q) : w.ownsRow lo e sz v n xs := by
  obtain ⟨h3, h4⟩ := h
  refine ⟨h3, ?_⟩
  rcases h4 with h | ⟨g, cap, cur, rfl, hbb, rest⟩
  · exact .inl h
  · exact .inr ⟨g, cap, cur, rfl, hq g rfl, rest⟩
theorem Own1.at {w : World} {S : Nat → Prop} {lo : Nat} {v : Value} {xs : List Int} (h : Own1 v xs w S) (hs : ∀ k, S k → lo ≤ k) : Sl w lo v xs := ⟨own_lift h.1.1 fun q hq => hs q (h.2 q hq), h.1.2⟩
theorem Own2.at {w : World} {S : Nat → Prop} {lo : Nat} {v : Value} {rows : List (List Int)} (h : Own2 v rows w S) (hs : ∀ k, S k → lo ≤ k) : Sl2 w lo v rows := by
  obtain ⟨us, h1, h2, h3, h4, h5, h6⟩ := h
  exact ⟨us, h1, h2, own_lift h3 fun q hq => hs q (h6 q hq), fun i hi => ⟨⟨own_lift (h4 i hi).1.1 fun q hq => hs q ((h4 i hi).2.2 q hq), (h4 i hi).1.2⟩, (h4 i hi).2.1⟩, h5⟩

/-- The blocks lo, .., hi - 1. -/
def span (lo hi : Nat) (k : Nat) : Prop := lo ≤ k ∧ k < hi
/-- What a call handed back lies in the blocks that it made. -/
theorem Loc.span {P : World → (Nat → Prop) → Prop} (h : Loc P) {w : World} {lo : Nat} (hp : P w (fun k => lo ≤ k)) : P w (span lo w.heap.size) := h.fin hp
theorem Loc.below {P : World → (Nat → Prop) → Prop} (h : Loc P) {w w' : World} {S : Nat → Prop} (hb : Below w.heap.size w w') (hp : P w S) : P w' S := h.keep (fun _ _ hs => hs) (agree_below hb) hp
theorem Loc.fr {P : World → (Nat → Prop) → Prop} (h : Loc P) {w w' : World} {lo hi l r : Nat} (hf : FrS (Go.Proofs.Ytgkfampgofjkfaa.span lo hi) w w') (hp : P w (Go.Proofs.Ytgkfampgofjkfaa.span l r)) (hd : r ≤ lo ∨ hi ≤ l) : P w' (Go.Proofs.Ytgkfampgofjkfaa.span l r) :=
  h.keep (fun _ _ hs => hs) (agree_frS hf fun k h1 h2 => by unfold Go.Proofs.Ytgkfampgofjkfaa.span at h1 h2; omega) hp
theorem below_span {B : Nat} {W w w' : World} {lo hi : Nat} (hb : Below B W w) (hf : FrS (span lo hi) w w') (hB : B ≤ W.heap.size) (hlo : B ≤ lo) : Below B W w' :=
  below_frS hb hf hB fun k hk => Nat.le_trans hlo hk.1

theorem markS_any (w : World) (S : Nat → Prop) (v : Value) (xs : List Int) (k0 : Int) (h : Own1 v xs w S) (hk0 : 0 ≤ k0) (hk1 : k0 ≤ 1152921504606846976) :
    Calls Try.prog 16 #[v, .int .i64 k0] w (fun e w' => e = .returned (.int .i64 (k0 + xs.length)) ∧ Own1 v (upTo k0 xs.length) w' S ∧ FrS S w w') :=
  (mark_any w 0 v xs k0 h.1 hk0 hk1).mono fun _ _ ⟨h1, h2, h3⟩ => ⟨h1, ⟨h2, h.2⟩, frS_grown h3 h.2⟩

set_option maxHeartbeats 800000 in
set_option maxRecDepth 100000 in
theorem markS2_any (w : World) (S : Nat → Prop) (v : Value) (rows : List (List Int)) (k0 : Int) (h : Own2 v rows w S) (hk0 : 0 ≤ k0) (hk1 : k0 + (offR rows rows.length : Int) ≤ 1152921504606846976) :
    Calls Try.prog 45 #[v, .int .i64 k0] w (fun e w' => e = .returned (.int .i64 (k0 + (offR rows rows.length : Int))) ∧ Own2 v (mk2 k0 rows rows.length) w' S ∧ FrS S w w') := by
  obtain ⟨a, cap, rfl, hf⟩ := sl2_form h.sl
  have HF := Lib.hid hf; clear hf
  have hrl : rows.length ≤ 5000000000000 := by obtain ⟨us, _, h2, _⟩ := h; exact h2
  have H := Lib.hid h; clear h
  have HMONO := Lib.hid (offR_mono rows)
  go_enter Try.func45, Try.ntmps45
  go_wp2
  go_loopw [1, 5] (fun c i wr => ∃ k : Nat, k ≤ rows.length ∧ i = .int .i64 k ∧ c = .int .i64 (k0 + (offR rows k : Int)) ∧ Own2 (.slice a rows.length cap) (mk2 k0 rows k) wr S ∧ FrS S w wr) (fun _ i _ => rows.length - (intOf i).toNat)
  case atStart => exact ⟨0, Nat.zero_le _, rfl, by simp [offR], by rw [mk2_zero]; exact H.out, FrS.refl _ _⟩
  case round =>
    obtain ⟨k, hk, rfl, rfl, hs, hfr⟩ := hrel
    by_cases hlt : k < rows.length
    · obtain ⟨g, rfl⟩ := HF.out k hlt
      obtain ⟨us, h1, h2, h3, h4, h5, h6⟩ := hs
      rw [mk2_len] at h1 h2 h3 h4 h5
      have hrow := h4 k hlt
      rw [mk2_getD hlt, if_neg (Nat.lt_irrefl _)] at hrow
      have c1 : wr.cell? ⟨g, k, none⟩ = some (us.getD k undef) := by
        rw [h3.cellAt k (by omega), List.getD_eq_getElem?_getD, List.getElem?_eq_getElem (by omega)]; rfl
      have hm1 := HMONO.out (k + 1) rows.length (by omega)
      have hoff : offR rows (k + 1) = offR rows k + (rows.getD k []).length := rfl
      obtain ⟨ra, rc, hrv, _⟩ := sl_form hrow.1
      obtain ⟨u, hu⟩ : ∃ u, u = us.getD k undef := ⟨_, rfl⟩
      rw [← hu] at c1 hrow hrv
      obtain ⟨r, hr⟩ : ∃ r, r = rows.getD k [] := ⟨_, rfl⟩
      rw [← hr] at hrow hoff hrv
      obtain ⟨n, hn⟩ : ∃ n, n = offR rows k := ⟨_, rfl⟩
      rw [← hn] at hoff
      rw [← hn]
      have HU := Lib.hid hu; have HR := Lib.hid hr; have HN := Lib.hid hn; have HOFF := Lib.hid hoff; have HROW := Lib.hid hrow
      have hkn : k0 + (n : Int) + (r.length : Int) ≤ 1152921504606846976 := by omega
      have H3 := Lib.hid h3; have H4 := Lib.hid h4; have H5 := Lib.hid h5; have H1 := Lib.hid h1; have H6 := Lib.hid h6
      clear hu hr hn hoff hrow h3 h4 h5 h1 h6 hm1 hrv
      go_wp2_with fail
      refine (mark_any _ 0 _ r (k0 + (n : Int)) HROW.out.1 (by omega) (by omega)).mono ?_; rintro e w2 ⟨rfl, hs2, hg2⟩
      have hnew : Own2 (.slice (some ⟨g, 0, none⟩) rows.length cap) (mk2 k0 rows (k + 1)) w2 S := by
        refine ⟨us, by rw [mk2_len]; exact H1.out, by rw [mk2_len]; exact hrl, by rw [mk2_len]; exact H3.out.kept hg2 (.inr fun e => HROW.out.2.1 g e.symm rfl), fun i hi' => ?_, fun i j hij hj => ?_, H6.out⟩
        · rw [mk2_len] at hi'
          rw [mk2_getD hi']
          have hold := H4.out i hi'
          rw [mk2_getD hi'] at hold
          by_cases hik : i = k
          · subst hik
            rw [if_pos (by omega), ← HU.out, ← HR.out, ← HN.out]
            exact ⟨hs2, HROW.out.2⟩
          · have e1 : (i < k + 1) = (i < k) := by rw [eq_iff_iff]; omega
            simp only [e1]
            refine ⟨sl_kept hold.1 hg2 (apart_ne ?_), hold.2⟩
            rw [HU.out]
            rcases Nat.lt_or_ge i k with h | h
            · exact H5.out i k h hlt
            · exact (H5.out k i (by omega) hi').symm
        · rw [mk2_len] at hj
          exact H5.out i j hij hj
      have hfr2 := hfr.trans (frS_grown (S := S) hg2 fun q hq => HROW.out.2.2 q hq)
      have HNEW := Lib.hid hnew; clear hnew hs2 hfr hg2
      go_wp2
      go_roundw
      case rel => exact ⟨k + 1, by omega, by go_num, by rw [HOFF.out]; go_num, HNEW.out, hfr2⟩
      case measure => simp [intOf]; omega
    · obtain rfl : k = rows.length := by omega
      go_wp2
      go_ret
      exact ⟨rfl, hs, hfr⟩

end Go.Proofs.Ytgkfampgofjkfaa
