import Derived.Test.YtpcabkdkdnchaaaGreatZ1
import Derived.StillTailTactics
import Derived.Deep.RegionHeld3
import Derived.Deep.AppendLies
set_option linter.unusedSimpArgs false
set_option linter.unusedVariables false
set_option linter.unusedSectionVars false
namespace Go.Proofs.YtpcabkdkdnchaaaGreat
open Go.RowKit
theorem sl2_form {w : World} {base : Nat} {v : Value} {rows : List (List Int)} (h : Sl2 w base v rows) :
    ∃ (a : Option Addr) (cap : Nat), v = .slice a rows.length cap ∧ ∀ j, j < rows.length → ∃ g, a = some ⟨g, 0, none⟩ := by
  obtain ⟨us, _, hl, ⟨hlen, hor⟩, _⟩ := h
  rcases hor with ⟨hv, hn⟩ | ⟨g, cap, cur, hv, _⟩
  · exact ⟨none, 0, by rw [hv, hn], fun j hj => by omega⟩
  · exact ⟨some ⟨g, 0, none⟩, cap, hv, fun j hj => ⟨g, rfl⟩⟩
theorem own_below {w w' : World} {base : Nat} {e : TypeId} {sz : Nat} {v : Value} {n : Nat} {xs : List Value} (hb : Below w.heap.size w w') (h : w.ownsRow base e sz v n xs) : w'.ownsRow base e sz v n xs := by
  obtain ⟨h3, h4⟩ := h
  refine ⟨h3, ?_⟩
  rcases h4 with h | ⟨g, cap, cur, hv, hbb, hg, rest⟩
  · exact .inl h
  · exact .inr ⟨g, cap, cur, hv, hbb, by rw [hb.block g (Array.getElem?_eq_some_iff.1 hg).1]; exact hg, rest⟩
theorem wp_makeS {w : World} {ops : Array Oper} {rest : List Oper} {o : Oper} {a : Act} {Q : Exit → Act → World → Prop}
    (hg : o.guard = none) (l c : Operand) (t : TypeId) (hop : o.op = Op.makeSlice t l c) (ht : Tryz.prog.underlying t = some (.slice 22))
    (kl kc : IntKind) (L C : Int) (n : Nat) (hl : a.eval l = .int kl L) (hc : a.eval c = .int kc C) (hL : L = (n : Int)) (hC : C = (n : Int)) (hn : n ≤ 5000000000000)
    (hK : ∀ w', Sl2 w' w.heap.size (.slice (some ⟨w.heap.size, 0, none⟩) n n) (List.replicate n []) → Below w.heap.size w w' → wpList Tryz.prog ops Q rest (a.put o.dst (.slice (some ⟨w.heap.size, 0, none⟩) n n)) w') :
    wpList Tryz.prog ops Q (o :: rest) a w := by
  obtain ⟨i, hi, hz, hs, hb⟩ := info_parts infoS
  refine wpList_make_full w hg l c t hop w.heap.size 22 i (.slice none 0 0) 1 ht hi hz hs kl kc L C n hl hc hL hC (by rw [hb]; omega) (by unfold maxLen; omega) (Nat.le_refl _) ?_
  intro w' hown hgrow
  have hone : (madeCells #[Value.slice none 0 0] n).toList = List.replicate n (.slice none 0 0) := by rw [toList_madeCells_one]
  refine hK w' ⟨List.replicate n (.slice none 0 0), by simp, by simpa using hn, ?_, fun j hj => ?_, fun j k hjk hk => ?_⟩ ((Below.refl _ _).grown hgrow (Nat.le_refl _) (by simp))
  · simp only [Value.cells, Nat.mul_one] at hown
    rw [hone] at hown
    simpa using hown
  · have hj' : j < n := by simpa using hj
    have e1 : (List.replicate n (Value.slice none 0 0)).getD j undef = .slice none 0 0 := by simp [List.getD_eq_getElem?_getD, hj']
    have e2 : (List.replicate n ([] : List Int)).getD j [] = [] := by simp [List.getD_eq_getElem?_getD, hj']
    rw [e1, e2]
    exact ⟨Sl.nil _ _, fun g hg => by simp [Value.ownBlock] at hg⟩
  · have hk' : k < n := by simpa using hk
    have e1 : (List.replicate n (Value.slice none 0 0)).getD j undef = .slice none 0 0 := by simp [List.getD_eq_getElem?_getD, show j < n by omega]
    rw [e1]
    exact fun g hg => by simp [Value.ownBlock] at hg
theorem getD_set2 {α : Type} (l : List α) (x : Nat) (z d : α) (y : Nat) (hx : x < l.length) : (l.set x z).getD y d = if y = x then z else l.getD y d := by
  simp only [List.getD_eq_getElem?_getD, List.getElem?_set]
  by_cases h : x = y
  · subst h; simp [hx]
  · rw [if_neg h, if_neg (fun e => h e.symm)]
theorem sl2_store {w w1 : World} {base g n cap k : Nat} {rows : List (List Int)} {r : List Int} {u0 : Value} (h : Sl2 w base (.slice (some ⟨g, 0, none⟩) n cap) rows) (hk : k < rows.length)
    (hb : Below w.heap.size w w1) (hu : Sl w1 w.heap.size u0 r) (hbase : base ≤ w.heap.size) :
    Sl2 (w1.setCell ⟨g, k, none⟩ u0) base (.slice (some ⟨g, 0, none⟩) n cap) (rows.set k r) := by
  obtain ⟨us, h1, h2, h3, h4, h5⟩ := h
  have hg0 : g < w.heap.size := (h3.lt g rfl).2
  have hlt : ∀ i, i < rows.length → ∀ q, (us.getD i undef).ownBlock = some q → q < w.heap.size := fun i hi q hq => ((h4 i hi).1.1.lt q hq).2
  have hge : ∀ q, u0.ownBlock = some q → w.heap.size ≤ q := fun q hq => (hu.1.lt q hq).1
  have hn : n = rows.length := by
    rcases h3.2 with ⟨hv, _⟩ | ⟨g', cap', cur, hv, _⟩
    · simp at hv
    · simp only [Value.slice.injEq] at hv
      exact hv.2.1
  subst hn
  have hst := (own_below hb h3).stored k u0
  have hgr := hst.2
  have hne : ∀ v : Value, (∀ q, v.ownBlock = some q → q ≠ g) → v.ownBlock = none ∨ v.ownBlock ≠ some g := fun v hv => by
    cases hb0 : v.ownBlock with
    | none => exact .inl rfl
    | some q => exact .inr fun e => hv q hb0 (by simpa using e)
  have hu0 : Sl (w1.setCell ⟨g, k, none⟩ u0) base u0 r := (sl_kept hu hgr (hne u0 fun q hq => by have := hge q hq; omega)).mono hbase
  refine ⟨us.set k u0, by simp [h1], by simpa using h2, by simpa using hst.1, fun i hi => ?_, fun i j hij hj => ?_⟩
  · simp only [List.length_set] at hi
    rw [getD_set2 us k u0 undef i (by omega), getD_set2 rows k r [] i (by omega)]
    by_cases hik : i = k
    · rw [if_pos hik, if_pos hik]
      exact ⟨hu0, fun q hq hv => by
        simp only [Value.ownBlock, Option.some.injEq] at hv
        have := hge q hq
        omega⟩
    · rw [if_neg hik, if_neg hik]
      exact ⟨sl_kept (sl_below hb (h4 i hi).1) hgr (hne _ fun q hq e => (h4 i hi).2 q hq (by simp [Value.ownBlock, e])), (h4 i hi).2⟩
  · simp only [List.length_set] at hj
    rw [getD_set2 us k u0 undef i (by omega), getD_set2 us k u0 undef j (by omega)]
    by_cases hik : i = k
    · rw [if_pos hik, if_neg (by omega)]
      intro q hq hq2
      have := hge q hq
      have := hlt j hj q hq2
      omega
    · rw [if_neg hik]
      by_cases hjk : j = k
      · rw [if_pos hjk]
        intro q hq hq2
        have := hge q hq2
        have := hlt i (by omega) q hq
        omega
      · rw [if_neg hjk]
        exact h5 i j hij hj
theorem rows_fill {rows : List (List Int)} {k : Nat} (hk : k < rows.length) :
    (rows.take k ++ List.replicate (rows.length - k) []).set k (rows.getD k []) = rows.take (k + 1) ++ List.replicate (rows.length - (k + 1)) [] := by
  have hl : (rows.take k).length = k := by simp; omega
  have hts : rows.take (k + 1) = rows.take k ++ [rows.getD k []] := by
    rw [List.take_succ_eq_append_getElem hk]; simp [List.getD_eq_getElem?_getD, List.getElem?_eq_getElem hk]
  rw [List.set_append, if_neg (by omega), hl, Nat.sub_self, hts]
  obtain ⟨m, hm⟩ : ∃ m, rows.length - k = m + 1 := ⟨rows.length - k - 1, by omega⟩
  have hm' : rows.length - (k + 1) = m := by omega
  rw [hm, hm', List.replicate_succ]
  simp
theorem sl2_cell {w : World} {base g n cap : Nat} {rows : List (List Int)} (h : Sl2 w base (.slice (some ⟨g, 0, none⟩) n cap) rows) {j : Nat} (hj : j < rows.length) :
    (∃ u, w.cell? ⟨g, j, none⟩ = some u) ∧ w.frozen? ⟨g, j, none⟩ = false ∧ base ≤ g ∧ g < w.heap.size := by
  obtain ⟨us, h1, h2, h3, h4, h5⟩ := h
  have hn : n = rows.length := by
    rcases h3.2 with ⟨hv, _⟩ | ⟨g', cap', cur, hv, _⟩
    · simp at hv
    · simp only [Value.slice.injEq] at hv
      exact hv.2.1
  subst hn
  refine ⟨⟨us[j]'(by omega), ?_⟩, h3.frozenAt j, h3.lt g rfl⟩
  rw [h3.cellAt j (by omega), List.getElem?_eq_getElem (by omega)]
def RetR (W : World) (rows : List (List Int)) (e : Ending) (w' : World) : Prop := ∃ v, e = .returned v ∧ Sl2 w' W.heap.size v rows ∧ Below W.heap.size W w'
set_option maxHeartbeats 800000 in
set_option maxRecDepth 100000 in
theorem to2_any (w : World) (v : Value) (rows : List (List Int)) (h : Rd2 w v rows) :
    Calls Tryz.prog 57 #[v] w (RetR w rows) := by
  obtain ⟨a, cap, rfl, hl, hc⟩ := h
  have HC := Lib.hid hc; clear hc
  go_enter Tryz.func57, Tryz.ntmps57
  go_wp2_with (at_make; refine wp_makeS rfl _ _ _ rfl Tryz.underlying23 .i64 .i64 _ _ rows.length rfl rfl rfl rfl hl ?_; intro w1 hs1 hb1)
  have HS := Lib.hid hs1; clear hs1
  go_loopw [4] (fun i wr => ∃ k : Nat, k ≤ rows.length ∧ i = .int .i64 k ∧ Sl2 wr w.heap.size (.slice (some ⟨w.heap.size, 0, none⟩) rows.length rows.length) (rows.take k ++ List.replicate (rows.length - k) []) ∧ Below w.heap.size w wr) (fun i _ => rows.length - (intOf i).toNat)
  case atStart => exact ⟨0, Nat.zero_le _, rfl, by simpa using HS.out, hb1⟩
  case round =>
    obtain ⟨k, hk, rfl, hs, hbel⟩ := hrel
    by_cases hlt : k < rows.length
    · obtain ⟨b, off, rfl, hb, hcell⟩ := HC.out k hlt
      obtain ⟨u, hu1, hu2⟩ := hcell k hlt
      have c1 : wr.cell? ⟨b, off + k, none⟩ = some u := (hbel.cell (p := ⟨b, off + k, none⟩) hb).trans hu1
      have hu3 := rd_below hbel hu2
      have hfill := rows_fill hlt
      obtain ⟨r, hrd⟩ : ∃ r, r = rows.getD k [] := ⟨_, rfl⟩
      rw [← hrd] at hu3 hfill
      have HFILL := Lib.hid hfill
      have HS2 := Lib.hid hs; clear hs hcell hu1 hu2 hrd hfill
      go_wp2_with fail
      refine (to_any _ _ _ hu3).mono ?_; rintro e w2 ⟨y, rfl, hs2, hb2⟩
      obtain ⟨ya, yc, rfl, _⟩ := sl_form hs2
      have hst := sl2_store HS2.out (k := k) (by simp; omega) hb2 hs2 hbel.size
      rw [HFILL.out] at hst
      obtain ⟨⟨z, c3⟩, c4, c5, _⟩ := sl2_cell (sl2_below hb2 HS2.out) (j := k) (by simp; omega)
      have HST := Lib.hid hst; clear hst hs2
      have hbel2 := hbel.trans (hb2.mono hbel.size)
      clear c1
      go_wp2
      go_roundw
      case rel => exact ⟨k + 1, by omega, by go_num, HST.out, hbel2.setCell (Nat.le_refl _) _⟩
      case measure => simp [intOf]; omega
    · obtain rfl : k = rows.length := by omega
      have HS2 := Lib.hid hs; clear hs
      go_wp2
      go_ret
      exact ⟨_, rfl, by simpa using HS2.out, hbel⟩
set_option maxHeartbeats 800000 in
set_option maxRecDepth 100000 in
theorem eq2_refl_any (w : World) (v1 v2 : Value) (rows : List (List Int)) (h1 : Rd2 w v1 rows) (h2 : Rd2 w v2 rows) :
    Calls Tryz.prog 60 #[v1, v2] w (RetB w true) := by
  obtain ⟨a, cap, rfl, hl, hc⟩ := h1
  obtain ⟨a2, cap2, rfl, hl2, hc2⟩ := h2
  have e1 : ((rows.length : Int) != (rows.length : Int)) = false := by simp
  have HC := Lib.hid hc; have HC2 := Lib.hid hc2; clear hc hc2
  go_enter Tryz.func60, Tryz.ntmps60
  go_wp2
  go_loopw [5] (fun i wr => ∃ k : Nat, k ≤ rows.length ∧ i = .int .i64 k ∧ Below w.heap.size w wr) (fun i _ => rows.length - (intOf i).toNat)
  case atStart => exact ⟨0, Nat.zero_le _, rfl, Below.refl _ _⟩
  case round =>
    obtain ⟨k, hk, rfl, hbel⟩ := hrel
    by_cases hlt : k < rows.length
    · obtain ⟨b, off, rfl, hb, hcell⟩ := HC.out k hlt
      obtain ⟨b2, off2, rfl, hb2, hcell2⟩ := HC2.out k hlt
      obtain ⟨u, hu1, hu2⟩ := hcell k hlt
      obtain ⟨u2, hv1, hv2⟩ := hcell2 k hlt
      have c1 : wr.cell? ⟨b, off + k, none⟩ = some u := (hbel.cell (p := ⟨b, off + k, none⟩) hb).trans hu1
      have c2 : wr.cell? ⟨b2, off2 + k, none⟩ = some u2 := (hbel.cell (p := ⟨b2, off2 + k, none⟩) hb2).trans hv1
      have r1 := rd_below hbel hu2
      have r2 := rd_below hbel hv2
      clear hcell hcell2 hu1 hv1 hu2 hv2
      have i0 : (0 : Int) ≤ (k : Int) := by omega
      have i1 : (k : Int) < (rows.length : Int) := by omega
      go_wp2
      go_still_tail 8, (by kernel_rfl)
      change wpList _ _ _ _ _ wr.drew
      have hb3 := hbel.drew
      have r1' : Rd wr.drew u (rows.getD k []) := r1
      have r2' : Rd wr.drew u2 (rows.getD k []) := r2
      clear c1 c2 r1 r2 hbel
      generalize wr.drew = w3 at r1' r2' hb3 ⊢
      go_wp2_with fail
      refine (eq_refl_any _ _ _ _ r1' r2').mono ?_; rintro e w4 ⟨rfl, hb4⟩
      go_wp2
      go_roundw
      case rel => exact ⟨k + 1, by omega, by go_num, hb3.trans (hb4.mono hb3.size)⟩
      case measure => simp [intOf]; omega
    · obtain rfl : k = rows.length := by omega
      go_wp2
      go_ret
      exact ⟨rfl, hbel⟩
end Go.Proofs.YtpcabkdkdnchaaaGreat
namespace Go.Proofs.YtpcabkdkdnchaaaGreat
open Go.RowKit
structure Fr (lo hi : Nat) (w w' : World) : Prop where
  os : w'.os = w.os
  tape : w'.tape = w.tape
  output : w'.output = w.output
  size : w.heap.size ≤ w'.heap.size
  block : ∀ k, k < w.heap.size → (k < lo ∨ hi ≤ k) → w'.heap[k]? = w.heap[k]?
def offR (rows : List (List Int)) : Nat → Nat
  | 0 => 0
  | j + 1 => offR rows j + (rows.getD j []).length
def mk2 (k0 : Int) (rows : List (List Int)) (i : Nat) : List (List Int) := (List.range rows.length).map fun j => if j < i then upTo (k0 + (offR rows j : Int)) (rows.getD j []).length else rows.getD j []
theorem mk2_len (k0 : Int) (rows : List (List Int)) (i : Nat) : (mk2 k0 rows i).length = rows.length := by simp [mk2]
theorem mk2_getD {k0 : Int} {rows : List (List Int)} {i j : Nat} (hj : j < rows.length) : (mk2 k0 rows i).getD j [] = if j < i then upTo (k0 + (offR rows j : Int)) (rows.getD j []).length else rows.getD j [] := by
  simp [mk2, List.getD_eq_getElem?_getD, hj]
theorem mk2_zero (k0 : Int) (rows : List (List Int)) : mk2 k0 rows 0 = rows := by
  apply List.ext_getElem (by simp [mk2])
  intro i h1 h2
  simp [mk2, List.getD_eq_getElem?_getD, h2]
theorem offR_mono (rows : List (List Int)) : ∀ i j, i ≤ j → offR rows i ≤ offR rows j := by
  intro i j h
  induction j with
  | zero => have : i = 0 := by omega
            subst this; exact Nat.le_refl _
  | succ j ih =>
    by_cases he : i = j + 1
    · subst he; exact Nat.le_refl _
    · have := ih (by omega)
      simp only [offR]
      omega
set_option maxHeartbeats 800000 in
set_option maxRecDepth 100000 in
theorem held2_any (w : World) (v : Value) (rows : List (List Int)) (k0 : Int) (h : Rd2 w v (mk2 k0 rows rows.length)) (hk0 : 0 ≤ k0) (hk1 : k0 + (offR rows rows.length : Int) ≤ 1152921504606846976) :
    Calls Tryz.prog 62 #[v, .int .i64 k0] w (RetI w (k0 + (offR rows rows.length : Int))) := by
  obtain ⟨a, cap, rfl, hl, hc⟩ := h
  have hle := mk2_len k0 rows rows.length
  rw [hle] at hl hc ⊢
  have HC := Lib.hid hc; clear hc hle
  have HMONO := Lib.hid (offR_mono rows)
  go_enter Tryz.func62, Tryz.ntmps62
  go_wp2
  go_loopw [1, 5] (fun c i wr => ∃ k : Nat, k ≤ rows.length ∧ i = .int .i64 k ∧ c = .int .i64 (k0 + (offR rows k : Int)) ∧ Below w.heap.size w wr) (fun _ i _ => rows.length - (intOf i).toNat)
  case atStart => exact ⟨0, Nat.zero_le _, rfl, by simp [offR], Below.refl _ _⟩
  case round =>
    obtain ⟨k, hk, rfl, rfl, hbel⟩ := hrel
    by_cases hlt : k < rows.length
    · obtain ⟨b, off, rfl, hb, hcell⟩ := HC.out k hlt
      obtain ⟨u, hu1, hu2⟩ := hcell k hlt
      rw [mk2_getD hlt, if_pos hlt] at hu2
      have c1 : wr.cell? ⟨b, off + k, none⟩ = some u := (hbel.cell (p := ⟨b, off + k, none⟩) hb).trans hu1
      have hr := rd_below hbel hu2
      have hm1 := HMONO.out (k + 1) rows.length (by omega)
      have hoff : offR rows (k + 1) = offR rows k + (rows.getD k []).length := rfl
      obtain ⟨r, hrd⟩ : ∃ r, r = rows.getD k [] := ⟨_, rfl⟩
      rw [← hrd] at hr hoff
      obtain ⟨n, hn⟩ : ∃ n, n = offR rows k := ⟨_, rfl⟩
      rw [← hn] at hoff hr
      rw [← hn]
      have hkn : k0 + (n : Int) + (r.length : Int) ≤ 1152921504606846976 := by omega
      have HOFF := Lib.hid hoff; clear hoff hm1 hrd hn hcell hu1 hu2
      go_wp2_with fail
      refine (held_any _ _ r.length (k0 + (n : Int)) hr (by omega) (by omega)).mono ?_; rintro e w2 ⟨rfl, hb2⟩
      go_wp2
      go_roundw
      case rel => exact ⟨k + 1, by omega, by go_num, by rw [HOFF.out]; go_num, hbel.trans (hb2.mono hbel.size)⟩
      case measure => simp [intOf]; omega
    · obtain rfl : k = rows.length := by omega
      go_wp2
      go_ret
      exact ⟨rfl, hbel⟩
end Go.Proofs.YtpcabkdkdnchaaaGreat
namespace Go.Proofs.YtpcabkdkdnchaaaGreat
open Go.RowKit
def Agree (S : Nat → Prop) (w w' : World) : Prop := ∀ k, k < w.heap.size → S k → w'.heap[k]? = w.heap[k]?
structure FrS (S : Nat → Prop) (w w' : World) : Prop where
  os : w'.os = w.os
  tape : w'.tape = w.tape
  output : w'.output = w.output
  size : w.heap.size ≤ w'.heap.size
  block : ∀ k, k < w.heap.size → ¬ S k → w'.heap[k]? = w.heap[k]?
theorem FrS.refl (S : Nat → Prop) (w : World) : FrS S w w := ⟨rfl, rfl, rfl, Nat.le_refl _, fun _ _ _ => rfl⟩
theorem FrS.trans {S : Nat → Prop} {a b c : World} (h : FrS S a b) (k : FrS S b c) : FrS S a c :=
  ⟨k.os.trans h.os, k.tape.trans h.tape, k.output.trans h.output, Nat.le_trans h.size k.size, fun i hi' hr => (k.block i (Nat.lt_of_lt_of_le hi' h.size) hr).trans (h.block i hi' hr)⟩
theorem FrS.mono {S T : Nat → Prop} {a b : World} (h : FrS S a b) (hs : ∀ k, S k → T k) : FrS T a b :=
  ⟨h.os, h.tape, h.output, h.size, fun i hi hr => h.block i hi fun e => hr (hs i e)⟩
theorem frS_grown {S : Nat → Prop} {w w' : World} {v : Value} (hg : w.grownBy w' v.ownBlock) (hv : ∀ q, v.ownBlock = some q → S q) : FrS S w w' :=
  ⟨hg.os, hg.tape, hg.output, hg.size, fun k hk hr => hg.block k hk fun e => hr (hv k e.symm)⟩
theorem below_frS {B : Nat} {W w w' : World} {S : Nat → Prop} (hb : Below B W w) (hf : FrS S w w') (hB : B ≤ W.heap.size) (hlo : ∀ k, S k → B ≤ k) : Below B W w' :=
  hb.trans ⟨hf.os, hf.tape, hf.output, hf.size, fun k hk => hf.block k (by have := hb.size; omega) (fun e => by have := hlo k e; omega)⟩
theorem agree_frS {S T : Nat → Prop} {w w' : World} (hf : FrS S w w') (h : ∀ k, S k → ¬ T k) : Agree T w w' := fun k hk ht => hf.block k hk fun e => h k e ht
theorem agree_below {S : Nat → Prop} {w w' : World} (hb : Below w.heap.size w w') : Agree S w w' := fun k hk _ => hb.block k hk
theorem agree_refl {S : Nat → Prop} {w : World} : Agree S w w := fun _ _ _ => rfl
structure Loc (P : World → (Nat → Prop) → Prop) : Prop where
  keep : ∀ {w w' : World} {S S' : Nat → Prop}, (∀ k, k < w.heap.size → S k → S' k) → Agree S w w' → P w S → P w' S'
theorem Loc.fin {P : World → (Nat → Prop) → Prop} (h : Loc P) {w : World} {S : Nat → Prop} (hp : P w S) : P w (fun k => S k ∧ k < w.heap.size) :=
  h.keep (fun _ hk hs => ⟨hs, hk⟩) agree_refl hp
def Own1 (v : Value) (xs : List Int) (w : World) (S : Nat → Prop) : Prop := Sl w 0 v xs ∧ ∀ q, v.ownBlock = some q → S q
def Own2 (v : Value) (rows : List (List Int)) (w : World) (S : Nat → Prop) : Prop :=
  ∃ us : List Value, us.length = rows.length ∧ rows.length ≤ 5000000000000 ∧ w.ownsRow 0 22 1 v rows.length us ∧
    (∀ i, i < rows.length → Sl w 0 (us.getD i undef) (rows.getD i []) ∧ Apart (us.getD i undef) v ∧ ∀ q, (us.getD i undef).ownBlock = some q → S q) ∧
    (∀ i j, i < j → j < rows.length → Apart (us.getD i undef) (us.getD j undef)) ∧ ∀ q, v.ownBlock = some q → S q
def Sep (A B : World → (Nat → Prop) → Prop) (w : World) (S : Nat → Prop) : Prop :=
  ∃ S1 S2 : Nat → Prop, (∀ k, S1 k → S k) ∧ (∀ k, S2 k → S k) ∧ (∀ k, S1 k → ¬ S2 k) ∧ A w S1 ∧ B w S2
theorem own_agree {w w' : World} {base : Nat} {e : TypeId} {sz : Nat} {v : Value} {n : Nat} {xs : List Value} (h : w.ownsRow base e sz v n xs) (hk : ∀ q, q < w.heap.size → v.ownBlock = some q → w'.heap[q]? = w.heap[q]?) : w'.ownsRow base e sz v n xs := by
  obtain ⟨h3, h4⟩ := h
  refine ⟨h3, ?_⟩
  rcases h4 with h | ⟨g, cap, cur, rfl, hbb, hg, rest⟩
  · exact .inl h
  · exact .inr ⟨g, cap, cur, rfl, hbb, by rw [hk g (Array.getElem?_eq_some_iff.1 hg).1 rfl]; exact hg, rest⟩
theorem own1_loc (v : Value) (xs : List Int) : Loc (Own1 v xs) where
  keep hs ha h := ⟨⟨own_agree h.1.1 fun q hq e => ha q hq (h.2 q e), h.1.2⟩, fun q hq => hs q (h.1.1.lt q hq).2 (h.2 q hq)⟩
theorem own2_loc (v : Value) (rows : List (List Int)) : Loc (Own2 v rows) where
  keep hs ha h := by
    obtain ⟨us, h1, h2, h3, h4, h5, h6⟩ := h
    exact ⟨us, h1, h2, own_agree h3 fun q hq e => ha q hq (h6 q e), fun i hi => ⟨⟨own_agree (h4 i hi).1.1 fun q hq e => ha q hq ((h4 i hi).2.2 q e), (h4 i hi).1.2⟩, (h4 i hi).2.1, fun q hq => hs q ((h4 i hi).1.1.lt q hq).2 ((h4 i hi).2.2 q hq)⟩, h5, fun q hq => hs q (h3.lt q hq).2 (h6 q hq)⟩
theorem sep_loc {A B : World → (Nat → Prop) → Prop} (ha : Loc A) (hb : Loc B) : Loc (Sep A B) where
  keep {w w' S S'} hs hag h := by
    obtain ⟨S1, S2, k1, k2, hd, h1, h2⟩ := h
    refine ⟨fun k => S1 k ∧ k < w.heap.size, fun k => S2 k ∧ k < w.heap.size, fun k h => hs k h.2 (k1 k h.1), fun k h => hs k h.2 (k2 k h.1), fun k a b => hd k a.1 b.1, ?_, ?_⟩
    · exact ha.keep (fun _ hk hs => ⟨hs, hk⟩) (fun k hk hh => hag k hk (k1 k hh)) h1
    · exact hb.keep (fun _ hk hs => ⟨hs, hk⟩) (fun k hk hh => hag k hk (k2 k hh)) h2
theorem Own1.rd {w : World} {S : Nat → Prop} {v : Value} {xs : List Int} (h : Own1 v xs w S) : Rd w v xs := h.1.rd
theorem Own2.sl {w : World} {S : Nat → Prop} {v : Value} {rows : List (List Int)} (h : Own2 v rows w S) : Sl2 w 0 v rows := by
  obtain ⟨us, h1, h2, h3, h4, h5, _⟩ := h
  exact ⟨us, h1, h2, h3, fun i hi => ⟨(h4 i hi).1, (h4 i hi).2.1⟩, h5⟩
theorem Own2.rd {w : World} {S : Nat → Prop} {v : Value} {rows : List (List Int)} (h : Own2 v rows w S) : Rd2 w v rows := sl2_rd h.sl
theorem own1_of {w : World} {lo : Nat} {v : Value} {xs : List Int} (h : Sl w lo v xs) : Own1 v xs w (fun k => lo ≤ k) := ⟨h.mono (Nat.zero_le _), fun q hq => (h.1.lt q hq).1⟩
theorem own_base {w : World} {lo : Nat} {e : TypeId} {sz : Nat} {v : Value} {n : Nat} {xs : List Value} (h : w.ownsRow lo e sz v n xs) : w.ownsRow 0 e sz v n xs := by
  obtain ⟨h3, h4⟩ := h
  refine ⟨h3, ?_⟩
  rcases h4 with h | ⟨g, cap, cur, rfl, hbb, rest⟩
  · exact .inl h
  · exact .inr ⟨g, cap, cur, rfl, Nat.zero_le _, rest⟩
theorem own2_of {w : World} {lo : Nat} {v : Value} {rows : List (List Int)} (h : Sl2 w lo v rows) : Own2 v rows w (fun k => lo ≤ k) := by
  obtain ⟨us, h1, h2, h3, h4, h5⟩ := h
  exact ⟨us, h1, h2, own_base h3, fun i hi => ⟨(h4 i hi).1.mono (Nat.zero_le _), (h4 i hi).2, fun q hq => ((h4 i hi).1.1.lt q hq).1⟩, h5, fun q hq => (h3.lt q hq).1⟩
theorem own_lift {w : World} {lo : Nat} {e : TypeId} {sz : Nat} {v : Value} {n : Nat} {xs : List Value} (h : w.ownsRow 0 e sz v n xs) (hq : ∀ q, v.ownBlock = some q → lo ≤ q) : w.ownsRow lo e sz v n xs := by
  obtain ⟨h3, h4⟩ := h
  refine ⟨h3, ?_⟩
  rcases h4 with h | ⟨g, cap, cur, rfl, hbb, rest⟩
  · exact .inl h
  · exact .inr ⟨g, cap, cur, rfl, hq g rfl, rest⟩
theorem Own1.at {w : World} {S : Nat → Prop} {lo : Nat} {v : Value} {xs : List Int} (h : Own1 v xs w S) (hs : ∀ k, S k → lo ≤ k) : Sl w lo v xs := ⟨own_lift h.1.1 fun q hq => hs q (h.2 q hq), h.1.2⟩
theorem Own2.at {w : World} {S : Nat → Prop} {lo : Nat} {v : Value} {rows : List (List Int)} (h : Own2 v rows w S) (hs : ∀ k, S k → lo ≤ k) : Sl2 w lo v rows := by
  obtain ⟨us, h1, h2, h3, h4, h5, h6⟩ := h
  exact ⟨us, h1, h2, own_lift h3 fun q hq => hs q (h6 q hq), fun i hi => ⟨⟨own_lift (h4 i hi).1.1 fun q hq => hs q ((h4 i hi).2.2 q hq), (h4 i hi).1.2⟩, (h4 i hi).2.1⟩, h5⟩
def span (lo hi : Nat) (k : Nat) : Prop := lo ≤ k ∧ k < hi
theorem Loc.span {P : World → (Nat → Prop) → Prop} (h : Loc P) {w : World} {lo : Nat} (hp : P w (fun k => lo ≤ k)) : P w (span lo w.heap.size) := h.fin hp
theorem Loc.below {P : World → (Nat → Prop) → Prop} (h : Loc P) {w w' : World} {S : Nat → Prop} (hb : Below w.heap.size w w') (hp : P w S) : P w' S := h.keep (fun _ _ hs => hs) (agree_below hb) hp
theorem markS_any (w : World) (S : Nat → Prop) (v : Value) (xs : List Int) (k0 : Int) (h : Own1 v xs w S) (hk0 : 0 ≤ k0) (hk1 : k0 ≤ 1152921504606846976) :
    Calls Tryz.prog 48 #[v, .int .i64 k0] w (fun e w' => e = .returned (.int .i64 (k0 + xs.length)) ∧ Own1 v (upTo k0 xs.length) w' S ∧ FrS S w w') :=
  (mark_any w 0 v xs k0 h.1 hk0 hk1).mono fun _ _ ⟨h1, h2, h3⟩ => ⟨h1, ⟨h2, h.2⟩, frS_grown h3 h.2⟩
set_option maxHeartbeats 800000 in
set_option maxRecDepth 100000 in
theorem markS2_any (w : World) (S : Nat → Prop) (v : Value) (rows : List (List Int)) (k0 : Int) (h : Own2 v rows w S) (hk0 : 0 ≤ k0) (hk1 : k0 + (offR rows rows.length : Int) ≤ 1152921504606846976) :
    Calls Tryz.prog 61 #[v, .int .i64 k0] w (fun e w' => e = .returned (.int .i64 (k0 + (offR rows rows.length : Int))) ∧ Own2 v (mk2 k0 rows rows.length) w' S ∧ FrS S w w') := by
  obtain ⟨a, cap, rfl, hf⟩ := sl2_form h.sl
  have HF := Lib.hid hf; clear hf
  have hrl : rows.length ≤ 5000000000000 := by obtain ⟨us, _, h2, _⟩ := h; exact h2
  have H := Lib.hid h; clear h
  have HMONO := Lib.hid (offR_mono rows)
  go_enter Tryz.func61, Tryz.ntmps61
  go_wp2
  go_loopw [1, 5] (fun c i wr => ∃ k : Nat, k ≤ rows.length ∧ i = .int .i64 k ∧ c = .int .i64 (k0 + (offR rows k : Int)) ∧ Own2 (.slice a rows.length cap) (mk2 k0 rows k) wr S ∧ FrS S w wr) (fun _ i _ => rows.length - (intOf i).toNat)
  case atStart => exact ⟨0, Nat.zero_le _, rfl, by simp [offR], by rw [mk2_zero]; exact H.out, FrS.refl _ _⟩
  case round =>
    obtain ⟨k, hk, rfl, rfl, hs, hfr⟩ := hrel
    by_cases hlt : k < rows.length
    · obtain ⟨g, rfl⟩ := HF.out k hlt
      obtain ⟨us, h1, h2, h3, h4, h5, h6⟩ := hs
      rw [mk2_len] at h1 h2 h3 h4 h5
      have hrow := h4 k hlt
      rw [mk2_getD hlt, if_neg (Nat.lt_irrefl _)] at hrow
      have c1 : wr.cell? ⟨g, k, none⟩ = some (us.getD k undef) := by
        rw [h3.cellAt k (by omega), List.getD_eq_getElem?_getD, List.getElem?_eq_getElem (by omega)]; rfl
      have hm1 := HMONO.out (k + 1) rows.length (by omega)
      have hoff : offR rows (k + 1) = offR rows k + (rows.getD k []).length := rfl
      obtain ⟨ra, rc, hrv, _⟩ := sl_form hrow.1
      obtain ⟨u, hu⟩ : ∃ u, u = us.getD k undef := ⟨_, rfl⟩
      rw [← hu] at c1 hrow hrv
      obtain ⟨r, hr⟩ : ∃ r, r = rows.getD k [] := ⟨_, rfl⟩
      rw [← hr] at hrow hoff hrv
      obtain ⟨n, hn⟩ : ∃ n, n = offR rows k := ⟨_, rfl⟩
      rw [← hn] at hoff
      rw [← hn]
      have HU := Lib.hid hu; have HR := Lib.hid hr; have HN := Lib.hid hn; have HOFF := Lib.hid hoff; have HROW := Lib.hid hrow
      have hkn : k0 + (n : Int) + (r.length : Int) ≤ 1152921504606846976 := by omega
      have H3 := Lib.hid h3; have H4 := Lib.hid h4; have H5 := Lib.hid h5; have H1 := Lib.hid h1; have H6 := Lib.hid h6
      clear hu hr hn hoff hrow h3 h4 h5 h1 h6 hm1 hrv
      go_wp2_with fail
      refine (mark_any _ 0 _ r (k0 + (n : Int)) HROW.out.1 (by omega) (by omega)).mono ?_; rintro e w2 ⟨rfl, hs2, hg2⟩
      have hnew : Own2 (.slice (some ⟨g, 0, none⟩) rows.length cap) (mk2 k0 rows (k + 1)) w2 S := by
        refine ⟨us, by rw [mk2_len]; exact H1.out, by rw [mk2_len]; exact hrl, by rw [mk2_len]; exact H3.out.kept hg2 (.inr fun e => HROW.out.2.1 g e.symm rfl), fun i hi' => ?_, fun i j hij hj => ?_, H6.out⟩
        · rw [mk2_len] at hi'
          rw [mk2_getD hi']
          have hold := H4.out i hi'
          rw [mk2_getD hi'] at hold
          by_cases hik : i = k
          · subst hik
            rw [if_pos (by omega), ← HU.out, ← HR.out, ← HN.out]
            exact ⟨hs2, HROW.out.2⟩
          · have e1 : (i < k + 1) = (i < k) := by rw [eq_iff_iff]; omega
            simp only [e1]
            refine ⟨sl_kept hold.1 hg2 (apart_ne ?_), hold.2⟩
            rw [HU.out]
            rcases Nat.lt_or_ge i k with h | h
            · exact H5.out i k h hlt
            · exact (H5.out k i (by omega) hi').symm
        · rw [mk2_len] at hj
          exact H5.out i j hij hj
      have hfr2 := hfr.trans (frS_grown (S := S) hg2 fun q hq => HROW.out.2.2 q hq)
      have HNEW := Lib.hid hnew; clear hnew hs2 hfr hg2
      go_wp2
      go_roundw
      case rel => exact ⟨k + 1, by omega, by go_num, by rw [HOFF.out]; go_num, HNEW.out, hfr2⟩
      case measure => simp [intOf]; omega
    · obtain rfl : k = rows.length := by omega
      go_wp2
      go_ret
      exact ⟨rfl, hs, hfr⟩
end Go.Proofs.YtpcabkdkdnchaaaGreat
set_option linter.unusedSimpArgs false
set_option linter.unusedVariables false
set_option linter.unusedSectionVars false
namespace Go.Proofs.YtpcabkdkdnchaaaGreat
open Go.RowKit
structure Cat where
  ob : Int
  s : List Int
  t : List Int
  e : List Int
  m : List (List Int)
def at0 (l : List Int) (x : Int) : Int := l.getD x.toNat 0
def row2 (m : List (List Int)) (x : Int) : List Int := m.getD x.toNat []
def Cat.th (c : Cat) (f g : Int) : Int := at0 (row2 c.m f) g
def Cat.n (c : Cat) : Nat := c.s.length
noncomputable def bP (p : Prop) : Bool := @decide p (Classical.propDecidable p)
theorem bP_t {p : Prop} (h : p) : bP p = true := by unfold bP; exact @decide_eq_true p (Classical.propDecidable p) h
theorem bP_f {p : Prop} (h : ¬ p) : bP p = false := by unfold bP; exact @decide_eq_false p (Classical.propDecidable p) h
theorem bP_iff {p : Prop} : bP p = true ↔ p := by
  unfold bP; exact @decide_eq_true_iff p (Classical.propDecidable p)
theorem bP_dec {p : Prop} [Decidable p] : bP p = decide p := by
  by_cases h : p
  · rw [bP_t h, decide_eq_true h]
  · rw [bP_f h, decide_eq_false h]
theorem bP_congr {p q : Prop} (h : p ↔ q) : bP p = bP q := by rw [propext h]
def Cat.arr (c : Cat) (f : Int) : Prop := 0 ≤ f ∧ f < c.s.length
def okIdent (c : Cat) (x : Nat) : Prop := c.arr (at0 c.e x) ∧ at0 c.s (at0 c.e x) = x ∧ at0 c.t (at0 c.e x) = x
def okComp (c : Cat) (f g : Int) : Prop :=
  (at0 c.t f = at0 c.s g → c.arr (c.th f g) ∧ at0 c.s (c.th f g) = at0 c.s f ∧ at0 c.t (c.th f g) = at0 c.t g) ∧ (at0 c.t f ≠ at0 c.s g → c.th f g = -1)
structure LenP (c : Cat) : Prop where
  ob0 : 0 ≤ c.ob
  ob8 : c.ob ≤ 8
  n40 : c.s.length ≤ 40
  el : (c.e.length : Int) = c.ob
  tl : c.t.length = c.s.length
  ml : c.m.length = c.s.length
structure ShapeP (c : Cat) : Prop extends LenP c where
  rl : ∀ j, j < c.m.length → (c.m.getD j []).length = c.s.length
  sa : AllP c.ob c.s
  ta : AllP c.ob c.t
  id : ∀ x : Nat, x < c.e.length → okIdent c x
  co : ∀ f g : Nat, f < c.s.length → g < c.s.length → okComp c f g
def badId (c : Cat) (f : Int) : Prop := ¬ (c.th (at0 c.e (at0 c.s f)) f = f ∧ c.th f (at0 c.e (at0 c.t f)) = f)
def badAs (c : Cat) (f g h : Int) : Prop := at0 c.t f = at0 c.s g ∧ at0 c.t g = at0 c.s h ∧ c.th (c.th f g) h ≠ c.th f (c.th g h)
noncomputable def firstN (p : Nat → Prop) (n : Nat) : Option Nat := (List.range n).find? fun k => bP (p k)
theorem firstN_none {p : Nat → Prop} {n : Nat} (h : ∀ k, k < n → ¬ p k) : firstN p n = none := by
  unfold firstN
  rw [List.find?_eq_none]
  intro x hx
  rw [bP_f (h x (by simpa using hx))]
  simp
theorem firstN_prop {p : Nat → Prop} {n k : Nat} (h : firstN p n = some k) : p k := by
  unfold firstN at h
  exact bP_iff.1 (List.find?_some (p := fun k => bP (p k)) h)
theorem firstN_no {p : Nat → Prop} {n : Nat} (h : firstN p n = none) {k : Nat} (hk : k < n) : ¬ p k := fun hp => by
  unfold firstN at h
  rw [List.find?_eq_none] at h
  exact h k (by simpa using hk) (bP_t hp)
noncomputable def first3 (p : Nat → Nat → Nat → Prop) (n : Nat) : Option (Nat × Nat × Nat) :=
  match firstN (fun f => ∃ g h, g < n ∧ h < n ∧ p f g h) n with
  | none => none
  | some f => match firstN (fun g => ∃ h, h < n ∧ p f g h) n with
    | none => none
    | some g => match firstN (fun h => p f g h) n with
      | none => none
      | some h => some (f, g, h)
theorem first3_none {p : Nat → Nat → Nat → Prop} {n : Nat} (h : ∀ f g k, f < n → g < n → k < n → ¬ p f g k) : first3 p n = none := by
  unfold first3
  rw [firstN_none fun f hf ⟨g, k, hg, hk, hp⟩ => h f g k hf hg hk hp]
noncomputable def faultOf (c : Cat) : Int × Int × Int × Int :=
  match firstN (fun f => badId c f) c.s.length with
  | some f => (1, f, 0, 0)
  | none => match first3 (fun f g h => badAs c f g h) c.s.length with
    | some (f, g, h) => (2, f, g, h)
    | none => (0, 0, 0, 0)
structure IsCat (c : Cat) : Prop extends ShapeP c where
  idl : ∀ f : Nat, f < c.s.length → c.th (at0 c.e (at0 c.s f)) f = f ∧ c.th f (at0 c.e (at0 c.t f)) = f
  assoc : ∀ f g h : Nat, f < c.s.length → g < c.s.length → h < c.s.length → ¬ badAs c f g h
theorem fault_no {c : Cat} (h0 : ∀ j : Nat, j < c.s.length → ¬ badId c j) (h1 : ∀ f g k : Nat, f < c.s.length → g < c.s.length → k < c.s.length → ¬ badAs c f g k) : faultOf c = (0, 0, 0, 0) := by
  unfold faultOf
  rw [firstN_none h0]
  simp only
  rw [first3_none h1]
theorem fault_zero {c : Cat} : (faultOf c).1 = 0 ↔ (∀ j : Nat, j < c.s.length → ¬ badId c j) ∧ ∀ f g k : Nat, f < c.s.length → g < c.s.length → k < c.s.length → ¬ badAs c f g k := by
  constructor
  · intro h
    unfold faultOf at h
    cases h1 : firstN (fun f => badId c f) c.s.length with
    | some f => rw [h1] at h; simp at h
    | none =>
      rw [h1] at h
      simp only at h
      refine ⟨fun j hj => firstN_no h1 hj, fun f g k hf hg hk hb => ?_⟩
      have hex : ∃ r, first3 (fun f g h : Nat => badAs c f g h) c.s.length = some r := by
        unfold first3
        cases e1 : firstN (fun f : Nat => ∃ g h : Nat, g < c.s.length ∧ h < c.s.length ∧ badAs c f g h) c.s.length with
        | none => exact absurd ⟨g, k, hg, hk, hb⟩ (firstN_no e1 hf)
        | some f1 =>
          obtain ⟨g1, k1, hg1, hk1, hb1⟩ := firstN_prop e1
          simp only
          cases e2 : firstN (fun g : Nat => ∃ h : Nat, h < c.s.length ∧ badAs c f1 g h) c.s.length with
          | none => exact absurd ⟨k1, hk1, hb1⟩ (firstN_no e2 hg1)
          | some g2 =>
            obtain ⟨k2, hk2, hb2⟩ := firstN_prop e2
            simp only
            cases e3 : firstN (fun h : Nat => badAs c f1 g2 h) c.s.length with
            | none => exact absurd hb2 (firstN_no e3 hk2)
            | some k3 => exact ⟨_, rfl⟩
      obtain ⟨⟨r1, r2, r3⟩, hr⟩ := hex
      rw [hr] at h
      simp at h
  · rintro ⟨h1, h2⟩
    rw [fault_no h1 h2]
noncomputable def fIsShape (c : Cat) : Bool := bP (ShapeP c)
noncomputable def fIsCategory (c : Cat) : Bool := bP (IsCat c)
theorem isCat_iff {c : Cat} : IsCat c ↔ ShapeP c ∧ (faultOf c).1 = 0 := by
  rw [fault_zero]
  constructor
  · intro h
    exact ⟨h.toShapeP, fun j hj hb => hb (h.idl j hj), h.assoc⟩
  · rintro ⟨h1, h2, h3⟩
    exact ⟨h1, fun f hf => Classical.not_not.1 (h2 f hf), h3⟩
theorem at0_nat (l : List Int) (k : Nat) : at0 l (k : Int) = l.getD k 0 := by simp [at0]
theorem allP_at {n : Int} {l : List Int} (h : AllP n l) {k : Nat} (hk : k < l.length) : 0 ≤ at0 l k ∧ at0 l k < n := by
  rw [at0_nat]; exact h _ (mem_getD hk)
theorem ShapeP.src {c : Cat} (h : ShapeP c) {f : Nat} (hf : f < c.s.length) : 0 ≤ at0 c.s f ∧ at0 c.s f < c.ob := allP_at h.sa hf
theorem ShapeP.tgt {c : Cat} (h : ShapeP c) {f : Nat} (hf : f < c.s.length) : 0 ≤ at0 c.t f ∧ at0 c.t f < c.ob := allP_at h.ta (by rw [h.tl]; exact hf)
theorem ShapeP.idn {c : Cat} (h : ShapeP c) {x : Int} (h0 : 0 ≤ x) (h1 : x < c.ob) : 0 ≤ at0 c.e x ∧ at0 c.e x < c.s.length ∧ at0 c.s (at0 c.e x) = x ∧ at0 c.t (at0 c.e x) = x := by
  obtain ⟨k, rfl⟩ := Int.eq_ofNat_of_zero_le h0
  have := h.el
  have hk := h.id k (by omega)
  exact ⟨hk.1.1, hk.1.2, hk.2.1, hk.2.2⟩
end Go.Proofs.YtpcabkdkdnchaaaGreat
set_option linter.unusedSimpArgs false
set_option linter.unusedVariables false
set_option linter.unusedSectionVars false
namespace Go.Proofs.YtpcabkdkdnchaaaGreat
open Go.RowKit
def up (l : List Int) (x : Nat) : Nat := (l.getD x 0).toNat
end Go.Proofs.YtpcabkdkdnchaaaGreat
namespace Go.Proofs.YtpcabkdkdnchaaaGreat
open Go.RowKit
theorem filled_set {n k : Nat} (hk : k < n) : (upTo 0 k ++ List.replicate (n - k) 0).set k (k : Int) = upTo 0 (k + 1) ++ List.replicate (n - (k + 1)) 0 := by
  have hl : (upTo 0 k).length = k := upTo_length _ _
  rw [List.set_append, if_neg (by omega), hl, Nat.sub_self, upTo_succ]
  obtain ⟨m, hm⟩ : ∃ m, n - k = m + 1 := ⟨n - k - 1, by omega⟩
  have hm' : n - (k + 1) = m := by omega
  rw [hm, hm', List.replicate_succ]
  simp
set_option maxHeartbeats 800000 in
set_option maxRecDepth 100000 in
theorem counting_any (w : World) (n : Nat) (hn : n ≤ 17592186044415) :
    Calls Tryz.prog 99 #[.int .i64 n] w (fun e w' => ∃ g, e = .returned (.slice (some ⟨g, 0, none⟩) n n) ∧ Sl w' w.heap.size (.slice (some ⟨g, 0, none⟩) n n) (upTo 0 n) ∧ Below w.heap.size w w') := by
  go_enter Tryz.func99, Tryz.ntmps99
  go_wp2_with (at_make; refine wp_make64 rfl _ _ _ rfl Tryz.underlying22 .i64 .i64 _ _ n rfl rfl rfl rfl hn ?_; intro w1 hs1 hb1 hz1)
  have HS := Lib.hid hs1; clear hs1
  go_loopw [9] (fun i wr => ∃ k : Nat, k ≤ n ∧ i = .int .i64 k ∧ Sl wr w.heap.size (.slice (some ⟨w.heap.size, 0, none⟩) n n) (upTo 0 k ++ List.replicate (n - k) 0) ∧ Below w.heap.size w wr) (fun i _ => n - (intOf i).toNat)
  case atStart => exact ⟨0, Nat.zero_le _, rfl, by simpa [upTo] using HS.out, hb1⟩
  case round =>
    obtain ⟨k, hk, rfl, hs, hbel⟩ := hrel
    by_cases hlt : k < n
    · have c2 := sl_cell hs (j := k) (by simp [upTo_length]; omega)
      have c3 := sl_frozen hs k
      have hset := sl_set hs k (k : Int)
      rw [filled_set hlt] at hset
      have HSET := Lib.hid hset; clear hset hs
      generalize (upTo 0 k ++ List.replicate (n - k) 0).getD k 0 = z at c2
      go_wp2
      go_roundw
      case rel => exact ⟨k + 1, by omega, by go_num, HSET.out.1, hbel.setCell (by simp) _⟩
      case measure => simp [intOf]; omega
    · obtain rfl : k = n := by omega
      have HS2 := Lib.hid hs; clear hs
      go_wp2
      go_ret
      exact ⟨_, rfl, by simpa using HS2.out, hbel⟩
end Go.Proofs.YtpcabkdkdnchaaaGreat
set_option linter.unusedSimpArgs false
set_option linter.unusedVariables false
set_option linter.unusedSectionVars false
namespace Go.Proofs.YtpcabkdkdnchaaaGreat
open Go.RowKit
end Go.Proofs.YtpcabkdkdnchaaaGreat
namespace Go.Proofs.YtpcabkdkdnchaaaGreat
open Go.RowKit
end Go.Proofs.YtpcabkdkdnchaaaGreat
set_option linter.unusedSimpArgs false
set_option linter.unusedVariables false
set_option linter.unusedSectionVars false
namespace Go.Proofs.YtpcabkdkdnchaaaGreat
open Go.RowKit
end Go.Proofs.YtpcabkdkdnchaaaGreat
set_option linter.unusedSimpArgs false
set_option linter.unusedVariables false
set_option linter.unusedSectionVars false
namespace Go.Proofs.YtpcabkdkdnchaaaGreat
open Go.RowKit
open Go.ChangeShapes Go.WideShapes Go.ChangeAt
def In2 (w : World) (v : Value) (rows : List (List Int)) : Prop :=
  ∃ (a : Option Addr) (cap : Nat), v = .slice a rows.length cap ∧ rows.length ≤ maxLen ∧
    ∀ j, j < rows.length → ∃ b off, a = some ⟨b, off, none⟩ ∧ b < w.heap.size ∧ ∀ i, i < rows.length → ∃ u, w.cell? ⟨b, off + i, none⟩ = some u ∧ In w u (rows.getD i [])
theorem In2.rd {w : World} {v : Value} {rows : List (List Int)} (h : In2 w v rows) (hl : rows.length + offR rows rows.length ≤ 1048576) : Rd2 w v rows := by
  obtain ⟨a, cap, hv, _, hc⟩ := h
  refine ⟨a, cap, hv, by omega, fun j hj => ?_⟩
  obtain ⟨b, off, ha, hb, hcell⟩ := hc j hj
  refine ⟨b, off, ha, hb, fun i hi => ?_⟩
  obtain ⟨u, h1, h2⟩ := hcell i hi
  refine ⟨u, h1, h2.rd ?_⟩
  have hm := offR_mono rows (i + 1) rows.length (by omega)
  simp only [offR] at hm
  omega
theorem in_below {w w' : World} {v : Value} {xs : List Int} (hb : Below w.heap.size w w') (h : In w v xs) : In w' v xs := by
  obtain ⟨a, cap, hv, hl, hw, hc⟩ := h
  refine ⟨a, cap, hv, hl, hw, fun j hj => ?_⟩
  obtain ⟨b, off, ha, hbs, hcell⟩ := hc j hj
  exact ⟨b, off, ha, Nat.lt_of_lt_of_le hbs hb.size, fun i hi => (hb.cell (p := ⟨b, off + i, none⟩) hbs).trans (hcell i hi)⟩
theorem sz_any (w : World) (v : Value) (xs : List Int) (left : Int) (h : In w v xs) (h0 : 0 ≤ left) (h1 : left ≤ 1048576) :
    Calls Tryz.prog 37 #[v, .int .i64 left] w (Same w (.int .i64 (if (xs.length : Int) ≤ left then left - xs.length else -1))) := by
  obtain ⟨a, cap, rfl, hm, _⟩ := h
  unfold maxLen at hm
  by_cases hc : (xs.length : Int) ≤ left
  · rw [if_pos hc]
    go_enter Tryz.func37, Tryz.ntmps37
    go_wp2
    go_ret
    exact ⟨rfl, rfl⟩
  · rw [if_neg hc]
    have hlt : left < (xs.length : Int) := by omega
    clear hc
    go_enter Tryz.func37, Tryz.ntmps37
    go_wp2
    go_ret
    exact ⟨rfl, rfl⟩
set_option maxHeartbeats 800000 in
set_option maxRecDepth 100000 in
theorem sz2_any (w : World) (v : Value) (rows : List (List Int)) (left : Int) (h : In2 w v rows) (h0 : 0 ≤ left) (h1 : left ≤ 1048576) :
    Calls Tryz.prog 52 #[v, .int .i64 left] w (fun e w' => e = .returned (.int .i64 (if ((rows.length + offR rows rows.length : Nat) : Int) ≤ left then left - ((rows.length + offR rows rows.length : Nat) : Int) else -1)) ∧ Below w.heap.size w w') := by
  obtain ⟨a, cap, rfl, hm, hc⟩ := h
  unfold maxLen at hm
  have HC := Lib.hid hc; clear hc
  have HMONO := Lib.hid (offR_mono rows)
  by_cases hlen : (rows.length : Int) ≤ left
  · obtain ⟨res, hres⟩ : ∃ res, res = (if ((rows.length + offR rows rows.length : Nat) : Int) ≤ left then left - ((rows.length + offR rows rows.length : Nat) : Int) else -1) := ⟨_, rfl⟩
    rw [← hres]
    have HRES := Lib.hid hres; clear hres
    go_enter Tryz.func52, Tryz.ntmps52
    go_wp2
    go_loopw [1, 5] (fun c i wr => ∃ k : Nat, k ≤ rows.length ∧ i = .int .i64 k ∧ c = .int .i64 (left - rows.length - (offR rows k : Int)) ∧ (offR rows k : Int) ≤ left - rows.length ∧ Below w.heap.size w wr) (fun _ i _ => rows.length - (intOf i).toNat)
    case atStart => exact ⟨0, Nat.zero_le _, rfl, by simp [offR], by simp [offR]; omega, Below.refl _ _⟩
    case round =>
      obtain ⟨k, hk, rfl, rfl, hle, hbel⟩ := hrel
      by_cases hlt : k < rows.length
      · obtain ⟨b, off, rfl, hb, hcell⟩ := HC.out k hlt
        obtain ⟨u, hu1, hu2⟩ := hcell k hlt
        have c1 : wr.cell? ⟨b, off + k, none⟩ = some u := (hbel.cell (p := ⟨b, off + k, none⟩) hb).trans hu1
        have hin := in_below hbel hu2
        have hoff : offR rows (k + 1) = offR rows k + (rows.getD k []).length := rfl
        have hmm := HMONO.out (k + 1) rows.length (by omega)
        obtain ⟨r, hr⟩ : ∃ r, r = rows.getD k [] := ⟨_, rfl⟩
        rw [← hr] at hin hoff
        obtain ⟨n, hn⟩ : ∃ n, n = offR rows k := ⟨_, rfl⟩
        rw [← hn] at hoff hle
        rw [← hn]
        have hrl : (r.length : Int) ≤ 9223372036854775807 := by
          obtain ⟨_, _, _, h3, _⟩ := hin
          unfold maxLen at h3; omega
        by_cases hfit : (r.length : Int) ≤ left - rows.length - n
        · skip
          have HOFF := Lib.hid hoff; clear hoff hr hn hmm hcell hu1 hu2
          go_wp2_with fail
          refine (sz_any _ _ r (left - rows.length - (n : Int)) hin (by omega) (by omega)).mono ?_; rw [if_pos (by omega)]; rintro e w1 ⟨rfl, rfl⟩
          go_wp2
          go_roundw
          case rel => exact ⟨k + 1, by omega, by go_num, by rw [HOFF.out]; go_num, by rw [HOFF.out]; omega, hbel⟩
          case measure => simp [intOf]; omega
        · have hrr : res = -1 := by rw [HRES.out, if_neg (by omega)]
          subst hrr
          have hfit2 : left - rows.length - (n : Int) < (r.length : Int) := by omega
          clear hoff hr hn hmm hcell hu1 hu2 hfit
          go_wp2_with fail
          refine (sz_any _ _ r (left - rows.length - (n : Int)) hin (by omega) (by omega)).mono ?_; rw [if_neg (by omega)]; rintro e w1 ⟨rfl, rfl⟩
          go_wp2
          go_ret
          exact ⟨rfl, hbel⟩
      · obtain rfl : k = rows.length := by omega
        have hrr : res = left - rows.length - (offR rows rows.length : Int) := by rw [HRES.out, if_pos (by omega)]; omega
        subst hrr
        go_wp2
        go_ret
        exact ⟨rfl, hbel⟩
  · rw [if_neg (by omega)]
    have hlt : left < (rows.length : Int) := by omega
    clear hlen
    go_enter Tryz.func52, Tryz.ntmps52
    go_wp2
    go_ret
    exact ⟨rfl, Below.refl _ _⟩
def PairsP (n : Int) (ps : List (List Int)) : Prop := ∀ r ∈ ps, r.length = 2 ∧ AllP n r
instance (n : Int) (ps : List (List Int)) : Decidable (PairsP n ps) := inferInstanceAs (Decidable (∀ r ∈ ps, _))
end Go.Proofs.YtpcabkdkdnchaaaGreat
