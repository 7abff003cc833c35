import Derived.Test.YtpcabkdkdnchaaaGreatN1
import Derived.StillTailTactics
set_option linter.unusedSimpArgs false
set_option linter.unusedVariables false
set_option linter.unusedSectionVars false
namespace Go.Proofs.YtpcabkdkdnchaaaGreat
open Go.RowKit
theorem own_below {w w' : World} {base : Nat} {e : TypeId} {sz : Nat} {v : Value} {n : Nat} {xs : List Value} (hb : Below w.heap.size w w') (h : w.ownsRow base e sz v n xs) : w'.ownsRow base e sz v n xs := by
  obtain ⟨h3, h4⟩ := h
  refine ⟨h3, ?_⟩
  rcases h4 with h | ⟨g, cap, cur, hv, hbb, hg, rest⟩
  · exact .inl h
  · exact .inr ⟨g, cap, cur, hv, hbb, by rw [hb.block g (Array.getElem?_eq_some_iff.1 hg).1]; exact hg, rest⟩
theorem wp_makeS {w : World} {ops : Array Oper} {rest : List Oper} {o : Oper} {a : Act} {Q : Exit → Act → World → Prop}
    (hg : o.guard = none) (l c : Operand) (t : TypeId) (hop : o.op = Op.makeSlice t l c) (ht : Tryz.prog.underlying t = some (.slice 22))
    (kl kc : IntKind) (L C : Int) (n : Nat) (hl : a.eval l = .int kl L) (hc : a.eval c = .int kc C) (hL : L = (n : Int)) (hC : C = (n : Int)) (hn : n ≤ 5000000000000)
    (hK : ∀ w', Sl2 w' w.heap.size (.slice (some ⟨w.heap.size, 0, none⟩) n n) (List.replicate n []) → Below w.heap.size w w' → wpList Tryz.prog ops Q rest (a.put o.dst (.slice (some ⟨w.heap.size, 0, none⟩) n n)) w') :
    wpList Tryz.prog ops Q (o :: rest) a w := by
  obtain ⟨i, hi, hz, hs, hb⟩ := info_parts infoS
  refine wpList_make_full w hg l c t hop w.heap.size 22 i (.slice none 0 0) 1 ht hi hz hs kl kc L C n hl hc hL hC (by rw [hb]; omega) (by unfold maxLen; omega) (Nat.le_refl _) ?_
  intro w' hown hgrow
  have hone : (madeCells #[Value.slice none 0 0] n).toList = List.replicate n (.slice none 0 0) := by rw [toList_madeCells_one]
  refine hK w' ⟨List.replicate n (.slice none 0 0), by simp, by simpa using hn, ?_, fun j hj => ?_, fun j k hjk hk => ?_⟩ ((Below.refl _ _).grown hgrow (Nat.le_refl _) (by simp))
  · simp only [Value.cells, Nat.mul_one] at hown
    rw [hone] at hown
    simpa using hown
  · have hj' : j < n := by simpa using hj
    have e1 : (List.replicate n (Value.slice none 0 0)).getD j undef = .slice none 0 0 := by simp [List.getD_eq_getElem?_getD, hj']
    have e2 : (List.replicate n ([] : List Int)).getD j [] = [] := by simp [List.getD_eq_getElem?_getD, hj']
    rw [e1, e2]
    exact ⟨Sl.nil _ _, fun g hg => by simp [Value.ownBlock] at hg⟩
  · have hk' : k < n := by simpa using hk
    have e1 : (List.replicate n (Value.slice none 0 0)).getD j undef = .slice none 0 0 := by simp [List.getD_eq_getElem?_getD, show j < n by omega]
    rw [e1]
    exact fun g hg => by simp [Value.ownBlock] at hg
theorem getD_set2 {α : Type} (l : List α) (x : Nat) (z d : α) (y : Nat) (hx : x < l.length) : (l.set x z).getD y d = if y = x then z else l.getD y d := by
  simp only [List.getD_eq_getElem?_getD, List.getElem?_set]
  by_cases h : x = y
  · subst h; simp [hx]
  · rw [if_neg h, if_neg (fun e => h e.symm)]
theorem sl2_store {w w1 : World} {base g n cap k : Nat} {rows : List (List Int)} {r : List Int} {u0 : Value} (h : Sl2 w base (.slice (some ⟨g, 0, none⟩) n cap) rows) (hk : k < rows.length)
    (hb : Below w.heap.size w w1) (hu : Sl w1 w.heap.size u0 r) (hbase : base ≤ w.heap.size) :
    Sl2 (w1.setCell ⟨g, k, none⟩ u0) base (.slice (some ⟨g, 0, none⟩) n cap) (rows.set k r) := by
  obtain ⟨us, h1, h2, h3, h4, h5⟩ := h
  have hg0 : g < w.heap.size := (h3.lt g rfl).2
  have hlt : ∀ i, i < rows.length → ∀ q, (us.getD i undef).ownBlock = some q → q < w.heap.size := fun i hi q hq => ((h4 i hi).1.1.lt q hq).2
  have hge : ∀ q, u0.ownBlock = some q → w.heap.size ≤ q := fun q hq => (hu.1.lt q hq).1
  have hn : n = rows.length := by
    rcases h3.2 with ⟨hv, _⟩ | ⟨g', cap', cur, hv, _⟩
    · simp at hv
    · simp only [Value.slice.injEq] at hv
      exact hv.2.1
  subst hn
  have hst := (own_below hb h3).stored k u0
  have hgr := hst.2
  have hne : ∀ v : Value, (∀ q, v.ownBlock = some q → q ≠ g) → v.ownBlock = none ∨ v.ownBlock ≠ some g := fun v hv => by
    cases hb0 : v.ownBlock with
    | none => exact .inl rfl
    | some q => exact .inr fun e => hv q hb0 (by simpa using e)
  have hu0 : Sl (w1.setCell ⟨g, k, none⟩ u0) base u0 r := (sl_kept hu hgr (hne u0 fun q hq => by have := hge q hq; omega)).mono hbase
  refine ⟨us.set k u0, by simp [h1], by simpa using h2, by simpa using hst.1, fun i hi => ?_, fun i j hij hj => ?_⟩
  · simp only [List.length_set] at hi
    rw [getD_set2 us k u0 undef i (by omega), getD_set2 rows k r [] i (by omega)]
    by_cases hik : i = k
    · rw [if_pos hik, if_pos hik]
      exact ⟨hu0, fun q hq hv => by
        simp only [Value.ownBlock, Option.some.injEq] at hv
        have := hge q hq
        omega⟩
    · rw [if_neg hik, if_neg hik]
      exact ⟨sl_kept (sl_below hb (h4 i hi).1) hgr (hne _ fun q hq e => (h4 i hi).2 q hq (by simp [Value.ownBlock, e])), (h4 i hi).2⟩
  · simp only [List.length_set] at hj
    rw [getD_set2 us k u0 undef i (by omega), getD_set2 us k u0 undef j (by omega)]
    by_cases hik : i = k
    · rw [if_pos hik, if_neg (by omega)]
      intro q hq hq2
      have := hge q hq
      have := hlt j hj q hq2
      omega
    · rw [if_neg hik]
      by_cases hjk : j = k
      · rw [if_pos hjk]
        intro q hq hq2
        have := hge q hq2
        have := hlt i (by omega) q hq
        omega
      · rw [if_neg hjk]
        exact h5 i j hij hj
theorem rows_fill {rows : List (List Int)} {k : Nat} (hk : k < rows.length) :
    (rows.take k ++ List.replicate (rows.length - k) []).set k (rows.getD k []) = rows.take (k + 1) ++ List.replicate (rows.length - (k + 1)) [] := by
  have hl : (rows.take k).length = k := by simp; omega
  have hts : rows.take (k + 1) = rows.take k ++ [rows.getD k []] := by
    rw [List.take_succ_eq_append_getElem hk]; simp [List.getD_eq_getElem?_getD, List.getElem?_eq_getElem hk]
  rw [List.set_append, if_neg (by omega), hl, Nat.sub_self, hts]
  obtain ⟨m, hm⟩ : ∃ m, rows.length - k = m + 1 := ⟨rows.length - k - 1, by omega⟩
  have hm' : rows.length - (k + 1) = m := by omega
  rw [hm, hm', List.replicate_succ]
  simp
theorem sl2_cell {w : World} {base g n cap : Nat} {rows : List (List Int)} (h : Sl2 w base (.slice (some ⟨g, 0, none⟩) n cap) rows) {j : Nat} (hj : j < rows.length) :
    (∃ u, w.cell? ⟨g, j, none⟩ = some u) ∧ w.frozen? ⟨g, j, none⟩ = false ∧ base ≤ g ∧ g < w.heap.size := by
  obtain ⟨us, h1, h2, h3, h4, h5⟩ := h
  have hn : n = rows.length := by
    rcases h3.2 with ⟨hv, _⟩ | ⟨g', cap', cur, hv, _⟩
    · simp at hv
    · simp only [Value.slice.injEq] at hv
      exact hv.2.1
  subst hn
  refine ⟨⟨us[j]'(by omega), ?_⟩, h3.frozenAt j, h3.lt g rfl⟩
  rw [h3.cellAt j (by omega), List.getElem?_eq_getElem (by omega)]
def RetR (W : World) (rows : List (List Int)) (e : Ending) (w' : World) : Prop := ∃ v, e = .returned v ∧ Sl2 w' W.heap.size v rows ∧ Below W.heap.size W w'
set_option maxHeartbeats 800000 in
set_option maxRecDepth 100000 in
theorem to2_any (w : World) (v : Value) (rows : List (List Int)) (h : Rd2 w v rows) :
    Calls Tryz.prog 57 #[v] w (RetR w rows) := by
  obtain ⟨a, cap, rfl, hl, hc⟩ := h
  have HC := Lib.hid hc; clear hc
  go_enter Tryz.func57, Tryz.ntmps57
  go_wp2_with (at_make; refine wp_makeS rfl _ _ _ rfl Tryz.underlying23 .i64 .i64 _ _ rows.length rfl rfl rfl rfl hl ?_; intro w1 hs1 hb1)
  have HS := Lib.hid hs1; clear hs1
  go_loopw [4] (fun i wr => ∃ k : Nat, k ≤ rows.length ∧ i = .int .i64 k ∧ Sl2 wr w.heap.size (.slice (some ⟨w.heap.size, 0, none⟩) rows.length rows.length) (rows.take k ++ List.replicate (rows.length - k) []) ∧ Below w.heap.size w wr) (fun i _ => rows.length - (intOf i).toNat)
  case atStart => exact ⟨0, Nat.zero_le _, rfl, by simpa using HS.out, hb1⟩
  case round =>
    obtain ⟨k, hk, rfl, hs, hbel⟩ := hrel
    by_cases hlt : k < rows.length
    · obtain ⟨b, off, rfl, hb, hcell⟩ := HC.out k hlt
      obtain ⟨u, hu1, hu2⟩ := hcell k hlt
      have c1 : wr.cell? ⟨b, off + k, none⟩ = some u := (hbel.cell (p := ⟨b, off + k, none⟩) hb).trans hu1
      have hu3 := rd_below hbel hu2
      have hfill := rows_fill hlt
      obtain ⟨r, hrd⟩ : ∃ r, r = rows.getD k [] := ⟨_, rfl⟩
      rw [← hrd] at hu3 hfill
      have HFILL := Lib.hid hfill
      have HS2 := Lib.hid hs; clear hs hcell hu1 hu2 hrd hfill
      go_wp2_with fail
      refine (to_any _ _ _ hu3).mono ?_; rintro e w2 ⟨y, rfl, hs2, hb2⟩
      obtain ⟨ya, yc, rfl, _⟩ := sl_form hs2
      have hst := sl2_store HS2.out (k := k) (by simp; omega) hb2 hs2 hbel.size
      rw [HFILL.out] at hst
      obtain ⟨⟨z, c3⟩, c4, c5, _⟩ := sl2_cell (sl2_below hb2 HS2.out) (j := k) (by simp; omega)
      have HST := Lib.hid hst; clear hst hs2
      have hbel2 := hbel.trans (hb2.mono hbel.size)
      clear c1
      go_wp2
      go_roundw
      case rel => exact ⟨k + 1, by omega, by go_num, HST.out, hbel2.setCell (Nat.le_refl _) _⟩
      case measure => simp [intOf]; omega
    · obtain rfl : k = rows.length := by omega
      have HS2 := Lib.hid hs; clear hs
      go_wp2
      go_ret
      exact ⟨_, rfl, by simpa using HS2.out, hbel⟩
set_option maxHeartbeats 800000 in
set_option maxRecDepth 100000 in
theorem eq2_refl_any (w : World) (v1 v2 : Value) (rows : List (List Int)) (h1 : Rd2 w v1 rows) (h2 : Rd2 w v2 rows) :
    Calls Tryz.prog 60 #[v1, v2] w (RetB w true) := by
  obtain ⟨a, cap, rfl, hl, hc⟩ := h1
  obtain ⟨a2, cap2, rfl, hl2, hc2⟩ := h2
  have e1 : ((rows.length : Int) != (rows.length : Int)) = false := by simp
  have HC := Lib.hid hc; have HC2 := Lib.hid hc2; clear hc hc2
  go_enter Tryz.func60, Tryz.ntmps60
  go_wp2
  go_loopw [5] (fun i wr => ∃ k : Nat, k ≤ rows.length ∧ i = .int .i64 k ∧ Below w.heap.size w wr) (fun i _ => rows.length - (intOf i).toNat)
  case atStart => exact ⟨0, Nat.zero_le _, rfl, Below.refl _ _⟩
  case round =>
    obtain ⟨k, hk, rfl, hbel⟩ := hrel
    by_cases hlt : k < rows.length
    · obtain ⟨b, off, rfl, hb, hcell⟩ := HC.out k hlt
      obtain ⟨b2, off2, rfl, hb2, hcell2⟩ := HC2.out k hlt
      obtain ⟨u, hu1, hu2⟩ := hcell k hlt
      obtain ⟨u2, hv1, hv2⟩ := hcell2 k hlt
      have c1 : wr.cell? ⟨b, off + k, none⟩ = some u := (hbel.cell (p := ⟨b, off + k, none⟩) hb).trans hu1
      have c2 : wr.cell? ⟨b2, off2 + k, none⟩ = some u2 := (hbel.cell (p := ⟨b2, off2 + k, none⟩) hb2).trans hv1
      have r1 := rd_below hbel hu2
      have r2 := rd_below hbel hv2
      clear hcell hcell2 hu1 hv1 hu2 hv2
      have i0 : (0 : Int) ≤ (k : Int) := by omega
      have i1 : (k : Int) < (rows.length : Int) := by omega
      go_wp2
      go_still_tail 8, (by kernel_rfl)
      change wpList _ _ _ _ _ wr.drew
      have hb3 := hbel.drew
      have r1' : Rd wr.drew u (rows.getD k []) := r1
      have r2' : Rd wr.drew u2 (rows.getD k []) := r2
      clear c1 c2 r1 r2 hbel
      generalize wr.drew = w3 at r1' r2' hb3 ⊢
      go_wp2_with fail
      refine (eq_refl_any _ _ _ _ r1' r2').mono ?_; rintro e w4 ⟨rfl, hb4⟩
      go_wp2
      go_roundw
      case rel => exact ⟨k + 1, by omega, by go_num, hb3.trans (hb4.mono hb3.size)⟩
      case measure => simp [intOf]; omega
    · obtain rfl : k = rows.length := by omega
      go_wp2
      go_ret
      exact ⟨rfl, hbel⟩
end Go.Proofs.YtpcabkdkdnchaaaGreat
namespace Go.Proofs.YtpcabkdkdnchaaaGreat
open Go.RowKit
structure Fr (lo hi : Nat) (w w' : World) : Prop where
  os : w'.os = w.os
  tape : w'.tape = w.tape
  output : w'.output = w.output
  size : w.heap.size ≤ w'.heap.size
  block : ∀ k, k < w.heap.size → (k < lo ∨ hi ≤ k) → w'.heap[k]? = w.heap[k]?
def offR (rows : List (List Int)) : Nat → Nat
  | 0 => 0
  | j + 1 => offR rows j + (rows.getD j []).length
theorem offR_mono (rows : List (List Int)) : ∀ i j, i ≤ j → offR rows i ≤ offR rows j := by
  intro i j h
  induction j with
  | zero => have : i = 0 := by omega
            subst this; exact Nat.le_refl _
  | succ j ih =>
    by_cases he : i = j + 1
    · subst he; exact Nat.le_refl _
    · have := ih (by omega)
      simp only [offR]
      omega
end Go.Proofs.YtpcabkdkdnchaaaGreat
namespace Go.Proofs.YtpcabkdkdnchaaaGreat
open Go.RowKit
def Agree (S : Nat → Prop) (w w' : World) : Prop := ∀ k, k < w.heap.size → S k → w'.heap[k]? = w.heap[k]?
structure FrS (S : Nat → Prop) (w w' : World) : Prop where
  os : w'.os = w.os
  tape : w'.tape = w.tape
  output : w'.output = w.output
  size : w.heap.size ≤ w'.heap.size
  block : ∀ k, k < w.heap.size → ¬ S k → w'.heap[k]? = w.heap[k]?
theorem FrS.refl (S : Nat → Prop) (w : World) : FrS S w w := ⟨rfl, rfl, rfl, Nat.le_refl _, fun _ _ _ => rfl⟩
theorem FrS.trans {S : Nat → Prop} {a b c : World} (h : FrS S a b) (k : FrS S b c) : FrS S a c :=
  ⟨k.os.trans h.os, k.tape.trans h.tape, k.output.trans h.output, Nat.le_trans h.size k.size, fun i hi' hr => (k.block i (Nat.lt_of_lt_of_le hi' h.size) hr).trans (h.block i hi' hr)⟩
theorem frS_grown {S : Nat → Prop} {w w' : World} {v : Value} (hg : w.grownBy w' v.ownBlock) (hv : ∀ q, v.ownBlock = some q → S q) : FrS S w w' :=
  ⟨hg.os, hg.tape, hg.output, hg.size, fun k hk hr => hg.block k hk fun e => hr (hv k e.symm)⟩
theorem below_frS {B : Nat} {W w w' : World} {S : Nat → Prop} (hb : Below B W w) (hf : FrS S w w') (hB : B ≤ W.heap.size) (hlo : ∀ k, S k → B ≤ k) : Below B W w' :=
  hb.trans ⟨hf.os, hf.tape, hf.output, hf.size, fun k hk => hf.block k (by have := hb.size; omega) (fun e => by have := hlo k e; omega)⟩
theorem agree_frS {S T : Nat → Prop} {w w' : World} (hf : FrS S w w') (h : ∀ k, S k → ¬ T k) : Agree T w w' := fun k hk ht => hf.block k hk fun e => h k e ht
theorem agree_below {S : Nat → Prop} {w w' : World} (hb : Below w.heap.size w w') : Agree S w w' := fun k hk _ => hb.block k hk
theorem agree_refl {S : Nat → Prop} {w : World} : Agree S w w := fun _ _ _ => rfl
structure Loc (P : World → (Nat → Prop) → Prop) : Prop where
  keep : ∀ {w w' : World} {S S' : Nat → Prop}, (∀ k, k < w.heap.size → S k → S' k) → Agree S w w' → P w S → P w' S'
theorem Loc.fin {P : World → (Nat → Prop) → Prop} (h : Loc P) {w : World} {S : Nat → Prop} (hp : P w S) : P w (fun k => S k ∧ k < w.heap.size) :=
  h.keep (fun _ hk hs => ⟨hs, hk⟩) agree_refl hp
def Own1 (v : Value) (xs : List Int) (w : World) (S : Nat → Prop) : Prop := Sl w 0 v xs ∧ ∀ q, v.ownBlock = some q → S q
def Own2 (v : Value) (rows : List (List Int)) (w : World) (S : Nat → Prop) : Prop :=
  ∃ us : List Value, us.length = rows.length ∧ rows.length ≤ 5000000000000 ∧ w.ownsRow 0 22 1 v rows.length us ∧
    (∀ i, i < rows.length → Sl w 0 (us.getD i undef) (rows.getD i []) ∧ Apart (us.getD i undef) v ∧ ∀ q, (us.getD i undef).ownBlock = some q → S q) ∧
    (∀ i j, i < j → j < rows.length → Apart (us.getD i undef) (us.getD j undef)) ∧ ∀ q, v.ownBlock = some q → S q
def Sep (A B : World → (Nat → Prop) → Prop) (w : World) (S : Nat → Prop) : Prop :=
  ∃ S1 S2 : Nat → Prop, (∀ k, S1 k → S k) ∧ (∀ k, S2 k → S k) ∧ (∀ k, S1 k → ¬ S2 k) ∧ A w S1 ∧ B w S2
theorem own_agree {w w' : World} {base : Nat} {e : TypeId} {sz : Nat} {v : Value} {n : Nat} {xs : List Value} (h : w.ownsRow base e sz v n xs) (hk : ∀ q, q < w.heap.size → v.ownBlock = some q → w'.heap[q]? = w.heap[q]?) : w'.ownsRow base e sz v n xs := by
  obtain ⟨h3, h4⟩ := h
  refine ⟨h3, ?_⟩
  rcases h4 with h | ⟨g, cap, cur, rfl, hbb, hg, rest⟩
  · exact .inl h
  · exact .inr ⟨g, cap, cur, rfl, hbb, by rw [hk g (Array.getElem?_eq_some_iff.1 hg).1 rfl]; exact hg, rest⟩
theorem own1_loc (v : Value) (xs : List Int) : Loc (Own1 v xs) where
  keep hs ha h := ⟨⟨own_agree h.1.1 fun q hq e => ha q hq (h.2 q e), h.1.2⟩, fun q hq => hs q (h.1.1.lt q hq).2 (h.2 q hq)⟩
theorem own2_loc (v : Value) (rows : List (List Int)) : Loc (Own2 v rows) where
  keep hs ha h := by
    obtain ⟨us, h1, h2, h3, h4, h5, h6⟩ := h
    exact ⟨us, h1, h2, own_agree h3 fun q hq e => ha q hq (h6 q e), fun i hi => ⟨⟨own_agree (h4 i hi).1.1 fun q hq e => ha q hq ((h4 i hi).2.2 q e), (h4 i hi).1.2⟩, (h4 i hi).2.1, fun q hq => hs q ((h4 i hi).1.1.lt q hq).2 ((h4 i hi).2.2 q hq)⟩, h5, fun q hq => hs q (h3.lt q hq).2 (h6 q hq)⟩
theorem Own1.rd {w : World} {S : Nat → Prop} {v : Value} {xs : List Int} (h : Own1 v xs w S) : Rd w v xs := h.1.rd
theorem Own2.sl {w : World} {S : Nat → Prop} {v : Value} {rows : List (List Int)} (h : Own2 v rows w S) : Sl2 w 0 v rows := by
  obtain ⟨us, h1, h2, h3, h4, h5, _⟩ := h
  exact ⟨us, h1, h2, h3, fun i hi => ⟨(h4 i hi).1, (h4 i hi).2.1⟩, h5⟩
theorem Own2.rd {w : World} {S : Nat → Prop} {v : Value} {rows : List (List Int)} (h : Own2 v rows w S) : Rd2 w v rows := sl2_rd h.sl
theorem own1_of {w : World} {lo : Nat} {v : Value} {xs : List Int} (h : Sl w lo v xs) : Own1 v xs w (fun k => lo ≤ k) := ⟨h.mono (Nat.zero_le _), fun q hq => (h.1.lt q hq).1⟩
theorem own_base {w : World} {lo : Nat} {e : TypeId} {sz : Nat} {v : Value} {n : Nat} {xs : List Value} (h : w.ownsRow lo e sz v n xs) : w.ownsRow 0 e sz v n xs := by
  obtain ⟨h3, h4⟩ := h
  refine ⟨h3, ?_⟩
  rcases h4 with h | ⟨g, cap, cur, rfl, hbb, rest⟩
  · exact .inl h
  · exact .inr ⟨g, cap, cur, rfl, Nat.zero_le _, rest⟩
theorem own2_of {w : World} {lo : Nat} {v : Value} {rows : List (List Int)} (h : Sl2 w lo v rows) : Own2 v rows w (fun k => lo ≤ k) := by
  obtain ⟨us, h1, h2, h3, h4, h5⟩ := h
  exact ⟨us, h1, h2, own_base h3, fun i hi => ⟨(h4 i hi).1.mono (Nat.zero_le _), (h4 i hi).2, fun q hq => ((h4 i hi).1.1.lt q hq).1⟩, h5, fun q hq => (h3.lt q hq).1⟩
theorem own_lift {w : World} {lo : Nat} {e : TypeId} {sz : Nat} {v : Value} {n : Nat} {xs : List Value} (h : w.ownsRow 0 e sz v n xs) (hq : ∀ q, v.ownBlock = some q → lo ≤ q) : w.ownsRow lo e sz v n xs := by
  obtain ⟨h3, h4⟩ := h
  refine ⟨h3, ?_⟩
  rcases h4 with h | ⟨g, cap, cur, rfl, hbb, rest⟩
  · exact .inl h
  · exact .inr ⟨g, cap, cur, rfl, hq g rfl, rest⟩
theorem Own1.at {w : World} {S : Nat → Prop} {lo : Nat} {v : Value} {xs : List Int} (h : Own1 v xs w S) (hs : ∀ k, S k → lo ≤ k) : Sl w lo v xs := ⟨own_lift h.1.1 fun q hq => hs q (h.2 q hq), h.1.2⟩
theorem Own2.at {w : World} {S : Nat → Prop} {lo : Nat} {v : Value} {rows : List (List Int)} (h : Own2 v rows w S) (hs : ∀ k, S k → lo ≤ k) : Sl2 w lo v rows := by
  obtain ⟨us, h1, h2, h3, h4, h5, h6⟩ := h
  exact ⟨us, h1, h2, own_lift h3 fun q hq => hs q (h6 q hq), fun i hi => ⟨⟨own_lift (h4 i hi).1.1 fun q hq => hs q ((h4 i hi).2.2 q hq), (h4 i hi).1.2⟩, (h4 i hi).2.1⟩, h5⟩
def span (lo hi : Nat) (k : Nat) : Prop := lo ≤ k ∧ k < hi
theorem Loc.span {P : World → (Nat → Prop) → Prop} (h : Loc P) {w : World} {lo : Nat} (hp : P w (fun k => lo ≤ k)) : P w (span lo w.heap.size) := h.fin hp
theorem Loc.below {P : World → (Nat → Prop) → Prop} (h : Loc P) {w w' : World} {S : Nat → Prop} (hb : Below w.heap.size w w') (hp : P w S) : P w' S := h.keep (fun _ _ hs => hs) (agree_below hb) hp
end Go.Proofs.YtpcabkdkdnchaaaGreat
set_option linter.unusedSimpArgs false
set_option linter.unusedVariables false
set_option linter.unusedSectionVars false
namespace Go.Proofs.YtpcabkdkdnchaaaGreat
open Go.RowKit
structure Cat where
  ob : Int
  s : List Int
  t : List Int
  e : List Int
  m : List (List Int)
def at0 (l : List Int) (x : Int) : Int := l.getD x.toNat 0
def row2 (m : List (List Int)) (x : Int) : List Int := m.getD x.toNat []
def Cat.th (c : Cat) (f g : Int) : Int := at0 (row2 c.m f) g
def Cat.n (c : Cat) : Nat := c.s.length
noncomputable def bP (p : Prop) : Bool := @decide p (Classical.propDecidable p)
theorem bP_t {p : Prop} (h : p) : bP p = true := by unfold bP; exact @decide_eq_true p (Classical.propDecidable p) h
theorem bP_f {p : Prop} (h : ¬ p) : bP p = false := by unfold bP; exact @decide_eq_false p (Classical.propDecidable p) h
theorem bP_iff {p : Prop} : bP p = true ↔ p := by
  unfold bP; exact @decide_eq_true_iff p (Classical.propDecidable p)
theorem bP_dec {p : Prop} [Decidable p] : bP p = decide p := by
  by_cases h : p
  · rw [bP_t h, decide_eq_true h]
  · rw [bP_f h, decide_eq_false h]
theorem bP_congr {p q : Prop} (h : p ↔ q) : bP p = bP q := by rw [propext h]
def Cat.arr (c : Cat) (f : Int) : Prop := 0 ≤ f ∧ f < c.s.length
def okIdent (c : Cat) (x : Nat) : Prop := c.arr (at0 c.e x) ∧ at0 c.s (at0 c.e x) = x ∧ at0 c.t (at0 c.e x) = x
def okComp (c : Cat) (f g : Int) : Prop :=
  (at0 c.t f = at0 c.s g → c.arr (c.th f g) ∧ at0 c.s (c.th f g) = at0 c.s f ∧ at0 c.t (c.th f g) = at0 c.t g) ∧ (at0 c.t f ≠ at0 c.s g → c.th f g = -1)
structure LenP (c : Cat) : Prop where
  ob0 : 0 ≤ c.ob
  ob8 : c.ob ≤ 8
  n40 : c.s.length ≤ 40
  el : (c.e.length : Int) = c.ob
  tl : c.t.length = c.s.length
  ml : c.m.length = c.s.length
structure ShapeP (c : Cat) : Prop extends LenP c where
  rl : ∀ j, j < c.m.length → (c.m.getD j []).length = c.s.length
  sa : AllP c.ob c.s
  ta : AllP c.ob c.t
  id : ∀ x : Nat, x < c.e.length → okIdent c x
  co : ∀ f g : Nat, f < c.s.length → g < c.s.length → okComp c f g
def badId (c : Cat) (f : Int) : Prop := ¬ (c.th (at0 c.e (at0 c.s f)) f = f ∧ c.th f (at0 c.e (at0 c.t f)) = f)
def badAs (c : Cat) (f g h : Int) : Prop := at0 c.t f = at0 c.s g ∧ at0 c.t g = at0 c.s h ∧ c.th (c.th f g) h ≠ c.th f (c.th g h)
noncomputable def firstN (p : Nat → Prop) (n : Nat) : Option Nat := (List.range n).find? fun k => bP (p k)
theorem firstN_none {p : Nat → Prop} {n : Nat} (h : ∀ k, k < n → ¬ p k) : firstN p n = none := by
  unfold firstN
  rw [List.find?_eq_none]
  intro x hx
  rw [bP_f (h x (by simpa using hx))]
  simp
theorem firstN_prop {p : Nat → Prop} {n k : Nat} (h : firstN p n = some k) : p k := by
  unfold firstN at h
  exact bP_iff.1 (List.find?_some (p := fun k => bP (p k)) h)
theorem firstN_no {p : Nat → Prop} {n : Nat} (h : firstN p n = none) {k : Nat} (hk : k < n) : ¬ p k := fun hp => by
  unfold firstN at h
  rw [List.find?_eq_none] at h
  exact h k (by simpa using hk) (bP_t hp)
noncomputable def first3 (p : Nat → Nat → Nat → Prop) (n : Nat) : Option (Nat × Nat × Nat) :=
  match firstN (fun f => ∃ g h, g < n ∧ h < n ∧ p f g h) n with
  | none => none
  | some f => match firstN (fun g => ∃ h, h < n ∧ p f g h) n with
    | none => none
    | some g => match firstN (fun h => p f g h) n with
      | none => none
      | some h => some (f, g, h)
theorem first3_none {p : Nat → Nat → Nat → Prop} {n : Nat} (h : ∀ f g k, f < n → g < n → k < n → ¬ p f g k) : first3 p n = none := by
  unfold first3
  rw [firstN_none fun f hf ⟨g, k, hg, hk, hp⟩ => h f g k hf hg hk hp]
noncomputable def faultOf (c : Cat) : Int × Int × Int × Int :=
  match firstN (fun f => badId c f) c.s.length with
  | some f => (1, f, 0, 0)
  | none => match first3 (fun f g h => badAs c f g h) c.s.length with
    | some (f, g, h) => (2, f, g, h)
    | none => (0, 0, 0, 0)
structure IsCat (c : Cat) : Prop extends ShapeP c where
  idl : ∀ f : Nat, f < c.s.length → c.th (at0 c.e (at0 c.s f)) f = f ∧ c.th f (at0 c.e (at0 c.t f)) = f
  assoc : ∀ f g h : Nat, f < c.s.length → g < c.s.length → h < c.s.length → ¬ badAs c f g h
theorem fault_no {c : Cat} (h0 : ∀ j : Nat, j < c.s.length → ¬ badId c j) (h1 : ∀ f g k : Nat, f < c.s.length → g < c.s.length → k < c.s.length → ¬ badAs c f g k) : faultOf c = (0, 0, 0, 0) := by
  unfold faultOf
  rw [firstN_none h0]
  simp only
  rw [first3_none h1]
theorem fault_zero {c : Cat} : (faultOf c).1 = 0 ↔ (∀ j : Nat, j < c.s.length → ¬ badId c j) ∧ ∀ f g k : Nat, f < c.s.length → g < c.s.length → k < c.s.length → ¬ badAs c f g k := by
  constructor
  · intro h
    unfold faultOf at h
    cases h1 : firstN (fun f => badId c f) c.s.length with
    | some f => rw [h1] at h; simp at h
    | none =>
      rw [h1] at h
      simp only at h
      refine ⟨fun j hj => firstN_no h1 hj, fun f g k hf hg hk hb => ?_⟩
      have hex : ∃ r, first3 (fun f g h : Nat => badAs c f g h) c.s.length = some r := by
        unfold first3
        cases e1 : firstN (fun f : Nat => ∃ g h : Nat, g < c.s.length ∧ h < c.s.length ∧ badAs c f g h) c.s.length with
        | none => exact absurd ⟨g, k, hg, hk, hb⟩ (firstN_no e1 hf)
        | some f1 =>
          obtain ⟨g1, k1, hg1, hk1, hb1⟩ := firstN_prop e1
          simp only
          cases e2 : firstN (fun g : Nat => ∃ h : Nat, h < c.s.length ∧ badAs c f1 g h) c.s.length with
          | none => exact absurd ⟨k1, hk1, hb1⟩ (firstN_no e2 hg1)
          | some g2 =>
            obtain ⟨k2, hk2, hb2⟩ := firstN_prop e2
            simp only
            cases e3 : firstN (fun h : Nat => badAs c f1 g2 h) c.s.length with
            | none => exact absurd hb2 (firstN_no e3 hk2)
            | some k3 => exact ⟨_, rfl⟩
      obtain ⟨⟨r1, r2, r3⟩, hr⟩ := hex
      rw [hr] at h
      simp at h
  · rintro ⟨h1, h2⟩
    rw [fault_no h1 h2]
noncomputable def fIsShape (c : Cat) : Bool := bP (ShapeP c)
noncomputable def fIsCategory (c : Cat) : Bool := bP (IsCat c)
theorem isCat_iff {c : Cat} : IsCat c ↔ ShapeP c ∧ (faultOf c).1 = 0 := by
  rw [fault_zero]
  constructor
  · intro h
    exact ⟨h.toShapeP, fun j hj hb => hb (h.idl j hj), h.assoc⟩
  · rintro ⟨h1, h2, h3⟩
    exact ⟨h1, fun f hf => Classical.not_not.1 (h2 f hf), h3⟩
theorem at0_nat (l : List Int) (k : Nat) : at0 l (k : Int) = l.getD k 0 := by simp [at0]
theorem allP_at {n : Int} {l : List Int} (h : AllP n l) {k : Nat} (hk : k < l.length) : 0 ≤ at0 l k ∧ at0 l k < n := by
  rw [at0_nat]; exact h _ (mem_getD hk)
theorem ShapeP.src {c : Cat} (h : ShapeP c) {f : Nat} (hf : f < c.s.length) : 0 ≤ at0 c.s f ∧ at0 c.s f < c.ob := allP_at h.sa hf
theorem ShapeP.tgt {c : Cat} (h : ShapeP c) {f : Nat} (hf : f < c.s.length) : 0 ≤ at0 c.t f ∧ at0 c.t f < c.ob := allP_at h.ta (by rw [h.tl]; exact hf)
theorem ShapeP.idn {c : Cat} (h : ShapeP c) {x : Int} (h0 : 0 ≤ x) (h1 : x < c.ob) : 0 ≤ at0 c.e x ∧ at0 c.e x < c.s.length ∧ at0 c.s (at0 c.e x) = x ∧ at0 c.t (at0 c.e x) = x := by
  obtain ⟨k, rfl⟩ := Int.eq_ofNat_of_zero_le h0
  have := h.el
  have hk := h.id k (by omega)
  exact ⟨hk.1.1, hk.1.2, hk.2.1, hk.2.2⟩
end Go.Proofs.YtpcabkdkdnchaaaGreat
set_option linter.unusedSimpArgs false
set_option linter.unusedVariables false
set_option linter.unusedSectionVars false
namespace Go.Proofs.YtpcabkdkdnchaaaGreat
open Go.RowKit
def up (l : List Int) (x : Nat) : Nat := (l.getD x 0).toNat
def InvL (l : List Int) : Prop := ∀ x, x < l.length → 0 ≤ l.getD x 0 ∧ l.getD x 0 ≤ x
def rootF (l : List Int) : Nat → Nat → Nat
  | 0, x => x
  | f + 1, x => if up l x = x then x else rootF l f (up l x)
def rt (l : List Int) (x : Nat) : Nat := rootF l x x
theorem getD_out {l : List Int} {x : Nat} (h : l.length ≤ x) : l.getD x 0 = 0 := by
  rw [List.getD_eq_getElem?_getD, List.getElem?_eq_none h]; rfl
theorem up_le {l : List Int} (h : InvL l) (x : Nat) : up l x ≤ x := by
  unfold up
  by_cases hx : x < l.length
  · have := h x hx; omega
  · rw [getD_out (by omega)]; omega
theorem up_int {l : List Int} (h : InvL l) {x : Nat} (hx : x < l.length) : l.getD x 0 = (up l x : Int) := by
  unfold up
  have := h x hx
  omega
theorem rootF_fuel {l : List Int} (h : InvL l) : ∀ x f, x ≤ f → rootF l f x = rt l x := by
  intro x
  induction x using Nat.strongRecOn with
  | _ x ih =>
    intro f hf
    cases f with
    | zero =>
      obtain rfl : x = 0 := by omega
      rfl
    | succ f =>
      have hu := up_le h x
      unfold rt
      cases x with
      | zero =>
        have : up l 0 = 0 := by omega
        simp [rootF, this]
      | succ m =>
        simp only [rootF]
        by_cases he : up l (m + 1) = m + 1
        · rw [if_pos he, if_pos he]
        · rw [if_neg he, if_neg he, ih _ (by omega) f (by omega), ih _ (by omega) m (by omega)]
theorem rt_eq {l : List Int} (h : InvL l) (x : Nat) : rt l x = if up l x = x then x else rt l (up l x) := by
  have hu := up_le h x
  have h1 : rt l x = rootF l (x + 1) x := (rootF_fuel h x (x + 1) (by omega)).symm
  rw [h1]
  simp only [rootF]
  by_cases he : up l x = x
  · rw [if_pos he, if_pos he]
  · rw [if_neg he, if_neg he, rootF_fuel h _ x hu]
theorem rt_root {l : List Int} (h : InvL l) : ∀ x, up l (rt l x) = rt l x ∧ rt l x ≤ x := by
  intro x
  induction x using Nat.strongRecOn with
  | _ x ih =>
    have hu := up_le h x
    rw [rt_eq h x]
    by_cases he : up l x = x
    · rw [if_pos he]; exact ⟨he, Nat.le_refl _⟩
    · rw [if_neg he]
      have := ih (up l x) (by omega)
      exact ⟨this.1, by omega⟩
theorem rt_self {l : List Int} (h : InvL l) {x : Nat} (he : up l x = x) : rt l x = x := by rw [rt_eq h x, if_pos he]
theorem getD_set (l : List Int) (x : Nat) (z : Int) (y : Nat) (hx : x < l.length) : (l.set x z).getD y 0 = if y = x then z else l.getD y 0 := by
  simp only [List.getD_eq_getElem?_getD, List.getElem?_set]
  by_cases h : x = y
  · subst h; simp [hx]
  · rw [if_neg h, if_neg (fun e => h e.symm)]
theorem up_set (l : List Int) (x z y : Nat) (hx : x < l.length) : up (l.set x (z : Int)) y = if y = x then z else up l y := by
  unfold up
  rw [getD_set l x z y hx]
  split <;> simp
theorem inv_set {l : List Int} (h : InvL l) {x z : Nat} (hx : x < l.length) (hz : z ≤ x) : InvL (l.set x (z : Int)) := by
  intro y hy
  rw [getD_set l x z y hx]
  simp only [List.length_set] at hy
  split
  · subst_vars; omega
  · exact h y hy
theorem rt_halve {l : List Int} (h : InvL l) {x : Nat} (hx : x < l.length) : ∀ i, rt (l.set x (up l (up l x) : Nat)) i = rt l i := by
  have hux := up_le h x
  have huy := up_le h (up l x)
  have h' : InvL (l.set x ((up l (up l x) : Nat) : Int)) := inv_set h hx (by omega)
  intro i
  induction i using Nat.strongRecOn with
  | _ i ih =>
    have hui := up_le h i
    rw [rt_eq h' i, rt_eq h i, up_set l x _ i hx]
    by_cases hi : i = x
    · subst hi
      rw [if_pos rfl]
      by_cases hy : up l i = i
      · simp [hy]
      · rw [if_neg hy, if_neg (by omega), ih _ (by omega), rt_eq h (up l i)]
        by_cases hz : up l (up l i) = up l i
        · rw [if_pos hz, hz, rt_self h hz]
        · rw [if_neg hz]
    · rw [if_neg hi]
      by_cases hy : up l i = i
      · rw [if_pos hy, if_pos hy]
      · rw [if_neg hy, if_neg hy, ih _ (by omega)]
theorem rt_link {l : List Int} (h : InvL l) {m n : Nat} (hm : m < l.length) (hn : n ≤ m) (rm : up l m = m) (rn : up l n = n) :
    ∀ i, rt (l.set m (n : Int)) i = if rt l i = m then n else rt l i := by
  have h' : InvL (l.set m (n : Int)) := inv_set h hm hn
  intro i
  induction i using Nat.strongRecOn with
  | _ i ih =>
    have hui := up_le h i
    rw [rt_eq h' i, up_set l m n i hm]
    by_cases hi : i = m
    · subst hi
      rw [if_pos rfl, rt_self h rm, if_pos rfl]
      by_cases he : n = i
      · rw [if_pos he, he]
      · rw [if_neg he, rt_eq h' n, up_set l i n n hm, if_neg he, if_pos rn]
    · rw [if_neg hi]
      by_cases hy : up l i = i
      · rw [if_pos hy, rt_self h hy, if_neg hi]
      · rw [if_neg hy, ih _ (by omega), rt_eq h i, if_neg hy]
def Rts (l : List Int) : List Int := (List.range l.length).map fun (i : Nat) => (rt l i : Int)
theorem Rts_len (l : List Int) : (Rts l).length = l.length := by simp [Rts]
theorem Rts_getD {l : List Int} {i : Nat} (hi : i < l.length) : (Rts l).getD i 0 = (rt l i : Int) := by
  simp [Rts, List.getD_eq_getElem?_getD, hi]
def mergeR (R : List Int) (a b : Int) : List Int := R.map fun z => if z = max a b then min a b else z
theorem Rts_link {l : List Int} (h : InvL l) {m n : Nat} (hm : m < l.length) (hn : n ≤ m) (rm : up l m = m) (rn : up l n = n) :
    Rts (l.set m (n : Int)) = mergeR (Rts l) n m := by
  unfold Rts mergeR
  rw [List.length_set, List.map_map]
  refine List.map_congr_left fun i _ => ?_
  simp only [Function.comp]
  rw [rt_link h hm hn rm rn]
  have h1 : max (n : Int) (m : Int) = m := by omega
  have h2 : min (n : Int) (m : Int) = n := by omega
  rw [h1, h2]
  by_cases he : rt l i = m
  · rw [if_pos he, if_pos (by omega)]
  · rw [if_neg he, if_neg (by omega)]
theorem Rts_same {l l' : List Int} (hl : l'.length = l.length) (h : ∀ i, rt l' i = rt l i) : Rts l' = Rts l := by
  unfold Rts; rw [hl]; exact List.map_congr_left fun i _ => by rw [h i]
theorem inv_upTo (n : Nat) : InvL (upTo 0 n) := by
  intro x hx
  rw [upTo_length] at hx
  rw [upTo_getD 0 n x hx]
  omega
theorem Rts_upTo (n : Nat) : Rts (upTo 0 n) = upTo 0 n := by
  unfold Rts
  rw [upTo_length]
  conv => rhs; unfold upTo
  refine List.map_congr_left fun i hi => ?_
  have hi' : i < n := by simpa using hi
  rw [rt_self (inv_upTo n) (by unfold up; rw [upTo_getD 0 n i hi']; omega)]
  omega
end Go.Proofs.YtpcabkdkdnchaaaGreat
namespace Go.Proofs.YtpcabkdkdnchaaaGreat
open Go.RowKit
set_option maxHeartbeats 800000 in
set_option maxRecDepth 100000 in
theorem leader_any (w : World) (base : Nat) (v : Value) (l : List Int) (x : Nat) (h : Sl w base v l) (hI : InvL l) (hx : x < l.length) :
    Calls Tryz.prog 162 #[v, .int .i64 x] w (fun e w' => ∃ l', e = .returned (.int .i64 (rt l x)) ∧ Sl w' base v l' ∧ InvL l' ∧ l'.length = l.length ∧ (∀ i, rt l' i = rt l i) ∧ w.grownBy w' v.ownBlock) := by
  have hl := h.2
  obtain ⟨a, cap, rfl, hf⟩ := sl_form h
  obtain ⟨g, rfl⟩ := hf x hx
  clear hf
  have H := Lib.hid h; have HI := Lib.hid hI; clear h hI
  go_enter Tryz.func162, Tryz.ntmps162
  go_wp2
  go_loopw [1] (fun c wr => ∃ (k : Nat) (m : List Int), k ≤ x ∧ c = .int .i64 k ∧ Sl wr base (.slice (some ⟨g, 0, none⟩) l.length cap) m ∧ Hid (InvL m) ∧ Hid (m.length = l.length) ∧ Hid (∀ i, rt m i = rt l i) ∧ Hid (rt l k = rt l x) ∧ w.grownBy wr (some g)) (fun c _ => (intOf c).toNat)
  case atStart => exact ⟨x, l, Nat.le_refl _, rfl, H.out, HI.out, rfl, fun _ => rfl, rfl, grown_refl _ _⟩
  case round =>
    obtain ⟨k, m, hk, rfl, hs, hI, hml, hrt, hkx, hgr⟩ := hrel
    have hkl : k < m.length := by rw [hml.out]; omega
    have hu := up_le hI.out k
    have hu2 := up_le hI.out (up m k)
    have hml1 := Nat.le_of_eq hml.out
    have hml2 := Nat.le_of_eq hml.out.symm
    have c1 := sl_cell hs (j := k) hkl
    have c2 := sl_cell hs (j := up m k) (by omega)
    rw [up_int hI.out hkl] at c1
    rw [up_int hI.out (by omega)] at c2
    have c3 := sl_frozen hs k
    have hset := sl_set hs k (up m (up m k) : Nat)
    have hset2 := sl_cell hset.1 (j := k) (by simp; omega)
    rw [getD_set m k _ k hkl, if_pos rfl] at hset2
    have hinv2 : InvL (m.set k (up m (up m k) : Nat)) := inv_set hI.out hkl (by omega)
    have hh := rt_halve hI.out hkl
    by_cases hroot : up m k = k
    · have hfin : rt l x = k := by rw [← hkx.out, ← hrt.out k, rt_self hI.out hroot]
      have HF := Lib.hid hfin; clear hfin hset hset2 hinv2 hh c2
      rw [hroot] at c1
      clear hroot hu hu2
      have ht : ((k : Int) != (k : Int)) = false := by simp
      go_wp2
      go_ret
      exact ⟨m, ret_i (a := (k : Int)) (by rw [HF.out]), hs, hI.out, hml.out, hrt.out, hgr⟩
    · obtain ⟨y, hy⟩ : ∃ y, y = up m k := ⟨_, rfl⟩
      rw [← hy] at c1 c2 hset hset2 hinv2 hh hu hu2 hroot
      obtain ⟨z, hz⟩ : ∃ z, z = up m y := ⟨_, rfl⟩
      rw [← hz] at c2 hset hset2 hinv2 hh hu2
      have hrk : rt l z = rt l x := by
        rw [← hkx.out, ← hrt.out k, ← hrt.out z, rt_eq hI.out k, ← hy, if_neg hroot, rt_eq hI.out y, ← hz]
        by_cases he : z = y
        · rw [if_pos he]; subst he; exact rt_self hI.out hz.symm
        · rw [if_neg he]
      have HRK := Lib.hid hrk; have HSET := Lib.hid hset; have HH := Lib.hid hh; have HV := Lib.hid hinv2; have HZ := Lib.hid hz; have HY := Lib.hid hy
      clear hrk hset hh hinv2 hz hy
      have ht : ((y : Int) != (k : Int)) = true := by rw [bne_iff_ne]; omega
      have hlt : z < k := by omega
      clear hroot hs
      go_wp2
      go_roundw
      case rel => exact ⟨z, m.set k (z : Int), by omega, rfl, HSET.out.1, HV.out, by simpa [Hid] using hml.out, fun i => by rw [HH.out i]; exact hrt.out i, HRK.out, grown_trans hgr HSET.out.2⟩
      case measure => simp [intOf]; omega
def Lead (w : World) (base : Nat) (v : Value) (R : List Int) : Prop := ∃ l, Sl w base v l ∧ InvL l ∧ Rts l = R
theorem Lead.len {w : World} {base : Nat} {v : Value} {R : List Int} (h : Lead w base v R) : R.length ≤ 17592186044415 := by
  obtain ⟨l, hs, _, rfl⟩ := h
  rw [Rts_len]; exact hs.2
set_option maxHeartbeats 800000 in
set_option maxRecDepth 100000 in
theorem join_any (w : World) (base : Nat) (v : Value) (R : List Int) (x y : Nat) (h : Lead w base v R) (hx : x < R.length) (hy : y < R.length) :
    Calls Tryz.prog 139 #[v, .int .i64 x, .int .i64 y] w (fun e w' => e = .returned (.tuple #[]) ∧ Lead w' base v (mergeR R (R.getD x 0) (R.getD y 0)) ∧ w.grownBy w' v.ownBlock) := by
  obtain ⟨l, hs, hI, rfl⟩ := h
  rw [Rts_len] at hx hy
  rw [Rts_getD hx, Rts_getD hy]
  obtain ⟨p, hp⟩ : ∃ p, p = rt l x := ⟨_, rfl⟩
  obtain ⟨q, hq⟩ : ∃ q, q = rt l y := ⟨_, rfl⟩
  rw [← hp, ← hq]
  have HP := Lib.hid hp; have HQ := Lib.hid hq; clear hp hq
  have hl := hs.2
  obtain ⟨a, cap, rfl, hf⟩ := sl_form hs
  obtain ⟨g, rfl⟩ := hf x hx
  clear hf
  have H := Lib.hid hs; have HI := Lib.hid hI; clear hs hI
  go_enter Tryz.func139, Tryz.ntmps139
  go_wp2_with fail
  refine (leader_any _ base _ l x H.out HI.out hx).mono ?_
  rintro e w1 ⟨l1, rfl, hs1, hI1, hl1, hr1, hg1⟩
  rw [← HP.out]
  have HS1 := Lib.hid hs1; have HI1 := Lib.hid hI1; have HL1 := Lib.hid hl1; have HR1 := Lib.hid hr1
  clear hs1 hI1 hl1 hr1
  go_wp2_with fail
  refine (leader_any _ base _ l1 y HS1.out HI1.out (by rw [HL1.out]; exact hy)).mono ?_
  rintro e w2 ⟨l2, rfl, hs2, hI2, hl2, hr2, hg2⟩
  rw [HR1.out y, ← HQ.out]
  have hlen : l2.length = l.length := hl2.trans HL1.out
  have hrt : ∀ i, rt l2 i = rt l i := fun i => (hr2 i).trans (HR1.out i)
  have rx := rt_root HI.out x
  have ry := rt_root HI.out y
  have rx2 := rt_root hI2 x
  have ry2 := rt_root hI2 y
  rw [hrt] at rx2 ry2
  have hRts : Rts l2 = Rts l := Rts_same hlen hrt
  rw [← HP.out] at rx2 rx
  rw [← HQ.out] at ry2 ry
  have hgr := grown_trans hg1 hg2
  have hpl : p < l2.length := by rw [hlen]; omega
  have hql : q < l2.length := by rw [hlen]; omega
  have hpl' : p < l.length := by omega
  have hql' : q < l.length := by omega
  rcases Nat.lt_trichotomy p q with hpq | hpq | hpq
  · have c3 := sl_cell hs2 (j := q) hql
    have c4 := sl_frozen hs2 q
    have hset := sl_set hs2 q (p : Int)
    have hfin : Lead (w2.setCell ⟨g, q, none⟩ (.int .i64 (p : Int))) base (.slice (some ⟨g, 0, none⟩) l.length cap) (mergeR (Rts l) p q) := by
      refine ⟨_, hset.1, inv_set hI2 hql (by omega), ?_⟩
      rw [← hRts, Rts_link hI2 hql (by omega) ry2.1 rx2.1]
    have HFIN := Lib.hid hfin; have HG := Lib.hid (grown_trans hgr hset.2)
    clear hfin hset hRts hrt hlen rx ry rx2 ry2 hgr hs2 hI2 hr2 hl2 hg1 hg2
    generalize l2.getD q 0 = z at c3
    have i1 : (p : Int) < (q : Int) := by omega
    have i2 : ¬ (q : Int) < (p : Int) := by omega
    go_wp2
    go_end0
    exact ⟨rfl, HFIN.out, HG.out⟩
  · subst hpq
    have c3 := sl_cell hs2 (j := p) hpl
    have c4 := sl_frozen hs2 p
    have hset := sl_set hs2 p (p : Int)
    have hfin : Lead (w2.setCell ⟨g, p, none⟩ (.int .i64 (p : Int))) base (.slice (some ⟨g, 0, none⟩) l.length cap) (mergeR (Rts l) p p) := by
      refine ⟨_, hset.1, inv_set hI2 hpl (by omega), ?_⟩
      rw [← hRts, Rts_link hI2 hpl (by omega) rx2.1 rx2.1]
    have HFIN := Lib.hid hfin; have HG := Lib.hid (grown_trans hgr hset.2)
    clear hfin hset hRts hrt hlen rx ry rx2 ry2 hgr hs2 hI2 hr2 hl2 hg1 hg2
    generalize l2.getD p 0 = z at c3
    have i2 : ¬ (p : Int) < (p : Int) := by omega
    go_wp2
    go_end0
    exact ⟨rfl, HFIN.out, HG.out⟩
  · have c3 := sl_cell hs2 (j := p) hpl
    have c4 := sl_frozen hs2 p
    have hset := sl_set hs2 p (q : Int)
    have hfin : Lead (w2.setCell ⟨g, p, none⟩ (.int .i64 (q : Int))) base (.slice (some ⟨g, 0, none⟩) l.length cap) (mergeR (Rts l) p q) := by
      refine ⟨_, hset.1, inv_set hI2 hpl (by omega), ?_⟩
      rw [← hRts, Rts_link hI2 hpl (by omega) rx2.1 ry2.1]
      unfold mergeR
      rw [Int.max_comm, Int.min_comm]
    have HFIN := Lib.hid hfin; have HG := Lib.hid (grown_trans hgr hset.2)
    clear hfin hset hRts hrt hlen rx ry rx2 ry2 hgr hs2 hI2 hr2 hl2 hg1 hg2
    generalize l2.getD p 0 = z at c3
    have i1 : (q : Int) < (p : Int) := by omega
    have i2 : ¬ (p : Int) < (q : Int) := by omega
    go_wp2
    go_end0
    exact ⟨rfl, HFIN.out, HG.out⟩
theorem filled_set {n k : Nat} (hk : k < n) : (upTo 0 k ++ List.replicate (n - k) 0).set k (k : Int) = upTo 0 (k + 1) ++ List.replicate (n - (k + 1)) 0 := by
  have hl : (upTo 0 k).length = k := upTo_length _ _
  rw [List.set_append, if_neg (by omega), hl, Nat.sub_self, upTo_succ]
  obtain ⟨m, hm⟩ : ∃ m, n - k = m + 1 := ⟨n - k - 1, by omega⟩
  have hm' : n - (k + 1) = m := by omega
  rw [hm, hm', List.replicate_succ]
  simp
set_option maxHeartbeats 800000 in
set_option maxRecDepth 100000 in
theorem counting_any (w : World) (n : Nat) (hn : n ≤ 17592186044415) :
    Calls Tryz.prog 99 #[.int .i64 n] w (fun e w' => ∃ g, e = .returned (.slice (some ⟨g, 0, none⟩) n n) ∧ Sl w' w.heap.size (.slice (some ⟨g, 0, none⟩) n n) (upTo 0 n) ∧ Below w.heap.size w w') := by
  go_enter Tryz.func99, Tryz.ntmps99
  go_wp2_with (at_make; refine wp_make64 rfl _ _ _ rfl Tryz.underlying22 .i64 .i64 _ _ n rfl rfl rfl rfl hn ?_; intro w1 hs1 hb1 hz1)
  have HS := Lib.hid hs1; clear hs1
  go_loopw [9] (fun i wr => ∃ k : Nat, k ≤ n ∧ i = .int .i64 k ∧ Sl wr w.heap.size (.slice (some ⟨w.heap.size, 0, none⟩) n n) (upTo 0 k ++ List.replicate (n - k) 0) ∧ Below w.heap.size w wr) (fun i _ => n - (intOf i).toNat)
  case atStart => exact ⟨0, Nat.zero_le _, rfl, by simpa [upTo] using HS.out, hb1⟩
  case round =>
    obtain ⟨k, hk, rfl, hs, hbel⟩ := hrel
    by_cases hlt : k < n
    · have c2 := sl_cell hs (j := k) (by simp [upTo_length]; omega)
      have c3 := sl_frozen hs k
      have hset := sl_set hs k (k : Int)
      rw [filled_set hlt] at hset
      have HSET := Lib.hid hset; clear hset hs
      generalize (upTo 0 k ++ List.replicate (n - k) 0).getD k 0 = z at c2
      go_wp2
      go_roundw
      case rel => exact ⟨k + 1, by omega, by go_num, HSET.out.1, hbel.setCell (by simp) _⟩
      case measure => simp [intOf]; omega
    · obtain rfl : k = n := by omega
      have HS2 := Lib.hid hs; clear hs
      go_wp2
      go_ret
      exact ⟨_, rfl, by simpa using HS2.out, hbel⟩
set_option maxHeartbeats 800000 in
set_option maxRecDepth 100000 in
theorem newLeaders_any (w : World) (n : Nat) (hn : n ≤ 17592186044415) :
    Calls Tryz.prog 138 #[.int .i64 n] w (fun e w' => ∃ g, e = .returned (.slice (some ⟨g, 0, none⟩) n n) ∧ Lead w' w.heap.size (.slice (some ⟨g, 0, none⟩) n n) (upTo 0 n) ∧ Below w.heap.size w w') := by
  go_enter Tryz.func138, Tryz.ntmps138
  go_wp2_with fail
  refine (counting_any _ n hn).mono ?_; rintro e w2 ⟨gl, rfl, hs0, hb2⟩
  have HS2 := Lib.hid hs0; clear hs0
  go_wp2
  go_ret
  exact ⟨_, rfl, ⟨upTo 0 n, by simpa using HS2.out, inv_upTo n, Rts_upTo n⟩, hb2⟩
theorem lab_fill {R : List Int} {k : Nat} (hk : k < R.length) :
    (R.take k ++ List.replicate (R.length - k) 0).set k (R.getD k 0) = R.take (k + 1) ++ List.replicate (R.length - (k + 1)) 0 := set_fill hk
end Go.Proofs.YtpcabkdkdnchaaaGreat
