import Derived.Test.YtpcabkdkdnchaaaGreatRows
import Derived.WalkKit
import Derived.ProofKit
import Derived.OpenShut
import Derived.Handy
import Derived.Lib.Hide
import Derived.Deep.QuietTactic
import Derived.BigQuiet
import Derived.Carry
import Derived.SizedLaws
import Derived.ChangeSlices
import Derived.Deep.Matrix
import Derived.Maps.AppendAt
import Derived.Maps.OwnSet
set_option linter.unusedSimpArgs false
set_option linter.unusedVariables false
set_option linter.unusedSectionVars false
namespace Go.Proofs.YtpcabkdkdnchaaaGreat
open Go.RowKit
def Rd (w : World) (v : Value) (xs : List Int) : Prop :=
  ∃ (a : Option Addr) (cap : Nat), v = .slice a xs.length cap ∧ xs.length ≤ 17592186044415 ∧
    ∀ j, j < xs.length → ∃ b off, a = some ⟨b, off, none⟩ ∧ b < w.heap.size ∧ ∀ i, i < xs.length → w.cell? ⟨b, off + i, none⟩ = some (.int .i64 (xs.getD i 0))
def Sl (w : World) (base : Nat) (v : Value) (xs : List Int) : Prop :=
  w.ownsRow base 2 1 v xs.length (xs.map (Value.int .i64)) ∧ xs.length ≤ 17592186044415
theorem rd_below {w w' : World} {v : Value} {xs : List Int} (hb : Below w.heap.size w w') (h : Rd w v xs) : Rd w' v xs := by
  obtain ⟨a, cap, hv, hl, hc⟩ := h
  refine ⟨a, cap, hv, hl, fun j hj => ?_⟩
  obtain ⟨b, off, ha, hbs, hcell⟩ := hc j hj
  exact ⟨b, off, ha, Nat.lt_of_lt_of_le hbs hb.size, fun i hi => (hb.cell (p := ⟨b, off + i, none⟩) hbs).trans (hcell i hi)⟩
theorem Sl.rd {w : World} {base : Nat} {v : Value} {xs : List Int} (h : Sl w base v xs) : Rd w v xs := by
  obtain ⟨⟨hlen, hor⟩, hl⟩ := h
  rcases hor with ⟨hv, hn⟩ | ⟨g, cap, cur, hv, hb, hg, hnc, hcm, hcs, ht⟩
  · exact ⟨none, 0, by rw [hv, hn], hl, fun j hj => by omega⟩
  · refine ⟨some ⟨g, 0, none⟩, cap, hv, hl, fun j hj => ⟨g, 0, rfl, (Array.getElem?_eq_some_iff.1 hg).1, fun i hi => ?_⟩⟩
    have h1 : (xs.map (Value.int .i64))[i]? = some (.int .i64 (xs.getD i 0)) := by
      simp [List.getD_eq_getElem?_getD, List.getElem?_eq_getElem hi]
    rw [← ht] at h1
    rw [cell_of_row w g (0 + i) cur _ (0, 0) hg]
    rw [List.getElem?_take] at h1
    split at h1
    · simpa using h1
    · cases h1
theorem sl_below {w w' : World} {base : Nat} {v : Value} {xs : List Int} (hb : Below w.heap.size w w') (h : Sl w base v xs) : Sl w' base v xs := by
  obtain ⟨⟨hlen, hor⟩, hl⟩ := h
  refine ⟨⟨hlen, ?_⟩, hl⟩
  rcases hor with h | ⟨g, cap, cur, hv, hbb, hg, rest⟩
  · exact .inl h
  · exact .inr ⟨g, cap, cur, hv, hbb, by rw [hb.block g (Array.getElem?_eq_some_iff.1 hg).1]; exact hg, rest⟩
theorem Sl.mono {w : World} {base base' : Nat} {v : Value} {xs : List Int} (h : Sl w base v xs) (hb : base' ≤ base) : Sl w base' v xs := by
  obtain ⟨⟨hlen, hor⟩, hl⟩ := h
  refine ⟨⟨hlen, ?_⟩, hl⟩
  rcases hor with h | ⟨g, cap, cur, hv, hbb, rest⟩
  · exact .inl h
  · exact .inr ⟨g, cap, cur, hv, Nat.le_trans hb hbb, rest⟩
theorem Sl.nil (w : World) (base : Nat) : Sl w base (.slice none 0 0) [] := ⟨World.ownsRow_nil w base _ 1, by simp⟩
theorem below_quiet {B : Nat} {a w : World} {n : Nat} (h : Below B a w) : Below B a (w.drewN n) := ⟨h.os, h.tape, h.output, h.size, h.block⟩
def RetB (W : World) (b : Bool) (e : Ending) (w' : World) : Prop := e = .returned (.bool b) ∧ Below W.heap.size W w'
def RetI (W : World) (n : Int) (e : Ending) (w' : World) : Prop := e = .returned (.int .i64 n) ∧ Below W.heap.size W w'
theorem sl_quiet {w : World} {base : Nat} {v : Value} {xs : List Int} {n : Nat} (h : Sl w base v xs) : Sl (w.drewN n) base v xs := h
def RetL (W : World) (xs : List Int) (e : Ending) (w' : World) : Prop := ∃ v, e = .returned v ∧ Sl w' W.heap.size v xs ∧ Below W.heap.size W w'
def Apart (v u : Value) : Prop := ∀ g, v.ownBlock = some g → u.ownBlock ≠ some g
theorem Apart.symm {v u : Value} (h : Apart v u) : Apart u v := fun g hg hv => h g hv hg
theorem apart_ne {v u : Value} (h : Apart v u) : v.ownBlock = none ∨ v.ownBlock ≠ u.ownBlock := by
  cases hv : v.ownBlock with
  | none => exact .inl rfl
  | some g => exact .inr fun e => h g hv e.symm
theorem apart_of {w w' : World} {B : Nat} {v u : Value} {xs ys : List Int} (h : Sl w B v xs) (h' : Sl w' w.heap.size u ys) : Apart v u := fun g hg hu => by
  have a := (h.1.lt g hg).2
  have b := (h'.1.lt g hu).1
  omega
theorem info64 : (Tryz.prog.info? 2).map (fun i => (i.zero, i.size, i.bytes)) = some (some (.int .i64 0), 1, 8) := by kernel_rfl
theorem sl_lt {w : World} {base : Nat} {g n cap : Nat} {xs : List Int} (h : Sl w base (.slice (some ⟨g, 0, none⟩) n cap) xs) : base ≤ g ∧ g < w.heap.size :=
  h.1.lt g rfl
theorem sl_cell {w : World} {base : Nat} {g n cap : Nat} {xs : List Int} (h : Sl w base (.slice (some ⟨g, 0, none⟩) n cap) xs) {j : Nat} (hj : j < xs.length) :
    w.cell? ⟨g, j, none⟩ = some (.int .i64 (xs.getD j 0)) := by
  obtain ⟨a, cap', hv, _, hc⟩ := h.rd
  obtain ⟨b, off, ha, _, hcell⟩ := hc j hj
  subst ha
  simp only [Value.slice.injEq, Option.some.injEq, Addr.mk.injEq] at hv
  obtain ⟨⟨rfl, rfl, _⟩, _⟩ := hv
  simpa using hcell j hj
theorem sl_len {w : World} {base : Nat} {a : Option Addr} {n cap : Nat} {xs : List Int} (h : Sl w base (.slice a n cap) xs) : n = xs.length := by
  obtain ⟨a', cap', hv, _⟩ := h.rd
  simp only [Value.slice.injEq] at hv
  exact hv.2.1
theorem sl_frozen {w : World} {base : Nat} {g n cap : Nat} {xs : List Int} (h : Sl w base (.slice (some ⟨g, 0, none⟩) n cap) xs) (j : Nat) : w.frozen? ⟨g, j, none⟩ = false := by
  have := sl_len h
  subst this
  exact h.1.frozenAt j
theorem sl_set {w : World} {base : Nat} {g n cap : Nat} {xs : List Int} (h : Sl w base (.slice (some ⟨g, 0, none⟩) n cap) xs) (j : Nat) (x : Int) :
    Sl (w.setCell ⟨g, j, none⟩ (.int .i64 x)) base (.slice (some ⟨g, 0, none⟩) n cap) (xs.set j x) ∧ w.grownBy (w.setCell ⟨g, j, none⟩ (.int .i64 x)) (some g) := by
  have := sl_len h
  subst this
  have hs := h.1.stored j (.int .i64 x)
  refine ⟨⟨?_, by simpa using h.2⟩, hs.2⟩
  have := hs.1
  rw [← List.map_set] at this
  simpa using this
theorem sl_kept {w w' : World} {base : Nat} {v : Value} {xs : List Int} {row : Option Nat} (h : Sl w base v xs) (hg : w.grownBy w' row) (hne : v.ownBlock = none ∨ v.ownBlock ≠ row) : Sl w' base v xs :=
  ⟨h.1.kept hg hne, h.2⟩
theorem grown_refl (w : World) (row : Option Nat) : w.grownBy w row := ⟨rfl, rfl, rfl, Nat.le_refl _, fun _ _ _ => rfl⟩
theorem grown_trans {a b c : World} {row : Option Nat} (h : a.grownBy b row) (k : b.grownBy c row) : a.grownBy c row :=
  ⟨k.os.trans h.os, k.tape.trans h.tape, k.output.trans h.output, Nat.le_trans h.size k.size, fun i hi hr => (k.block i (Nat.lt_of_lt_of_le hi h.size) hr).trans (h.block i hi hr)⟩
theorem sl_form {w : World} {base : Nat} {v : Value} {xs : List Int} (h : Sl w base v xs) :
    ∃ (a : Option Addr) (cap : Nat), v = .slice a xs.length cap ∧ ∀ j, j < xs.length → ∃ g, a = some ⟨g, 0, none⟩ := by
  obtain ⟨⟨hlen, hor⟩, hl⟩ := h
  rcases hor with ⟨hv, hn⟩ | ⟨g, cap, cur, hv, hb, hg, hnc, hcm, hcs, ht⟩
  · exact ⟨none, 0, by rw [hv, hn], fun j hj => by omega⟩
  · exact ⟨some ⟨g, 0, none⟩, cap, hv, fun j hj => ⟨g, rfl⟩⟩
theorem sl_alloc {w : World} {base : Nat} {v : Value} {xs : List Int} (h : Sl w base v xs) (o : Obj) : Sl (w.alloc o) base v xs :=
  sl_below ((Below.refl _ _).alloc (Nat.le_refl _) o) h
theorem madeOne (n : Nat) : (madeCells #[Value.int .i64 0] n).toList = (List.replicate n (0 : Int)).map (Value.int .i64) := by
  rw [toList_madeCells_one]; simp
theorem wp_make64 {w : World} {ops : Array Oper} {rest : List Oper} {o : Oper} {a : Act} {Q : Exit → Act → World → Prop}
    (hg : o.guard = none) (l c : Operand) (t : TypeId) (hop : o.op = Op.makeSlice t l c) (ht : Tryz.prog.underlying t = some (.slice 2))
    (kl kc : IntKind) (L C : Int) (n : Nat) (hl : a.eval l = .int kl L) (hc : a.eval c = .int kc C) (hL : L = (n : Int)) (hC : C = (n : Int)) (hn : n ≤ 17592186044415)
    (hK : ∀ w', Sl w' w.heap.size (.slice (some ⟨w.heap.size, 0, none⟩) n n) (List.replicate n 0) → Below w.heap.size w w' → w.heap.size < w'.heap.size → wpList Tryz.prog ops Q rest (a.put o.dst (.slice (some ⟨w.heap.size, 0, none⟩) n n)) w') :
    wpList Tryz.prog ops Q (o :: rest) a w := by
  obtain ⟨i, hi, hz, hs, hb⟩ := info_parts info64
  refine wpList_make_full w hg l c t hop w.heap.size 2 i (.int .i64 0) 1 ht hi hz hs kl kc L C n hl hc hL hC (by rw [hb]; omega) (by unfold maxLen; omega) (Nat.le_refl _) ?_
  intro w' hown hgrow
  have hs' : Sl w' w.heap.size (.slice (some ⟨w.heap.size, 0, none⟩) n n) (List.replicate n 0) := by
    refine ⟨?_, by simpa using hn⟩
    simp only [Value.cells, Nat.mul_one] at hown
    rw [madeOne] at hown
    simpa using hown
  exact hK w' hs' ((Below.refl _ _).grown hgrow (Nat.le_refl _) (by simp)) (sl_lt hs').2
theorem wp_append64 {w : World} {ops : Array Oper} {rest : List Oper} {o : Oper} {a : Act} {Q : Exit → Act → World → Prop}
    (hg : o.guard = none) (s x : Operand) (t : TypeId) (ho : o.op = .call { callee := .builtin .append, args := #[s, x], argTypes := #[t, t] }) (ht : Tryz.prog.underlying t = some (.slice 2))
    (base : Nat) (v : Value) (xs : List Int) (hv : a.eval s = v) (hs : Sl w base v xs) (ad : Addr) (c : Nat) (y : Int) (hx : a.eval x = .slice (some ad) 1 c) (hy : w.cell? ad = some (.int .i64 y))
    (hn : xs.length + 1 ≤ 17592186044415) (hbase : base ≤ w.heap.size)
    (hK : ∀ v' w', Sl w' base v' (xs ++ [y]) → w.grownBy w' v.ownBlock → wpList Tryz.prog ops Q rest (a.put o.dst v') w') :
    wpList Tryz.prog ops Q (o :: rest) a w := by
  obtain ⟨i, hi, hz, hs1, hb⟩ := info_parts info64
  refine wpList_append_own w hg s x t ho base 2 i (.int .i64 0) 1 8 ht hi hz hs1 hb rfl (by decide) v xs.length (xs.map (Value.int .i64)) hv hs.1 ad 1 c [.int .i64 y] hx rfl ?_ (by simp [Value.oneCell']) (by unfold maxLen; omega) (by omega) hbase ?_
  · intro j u hu
    cases j with
    | zero => simp at hu; subst hu; simpa [Addr.add] using hy
    | succ j => simp at hu
  · intro v' w' hown hgrow _
    refine hK v' w' ⟨?_, by simpa using hn⟩ hgrow
    simpa using hown
theorem sl_empty (w : World) : Sl (w.alloc (.cells #[] 2)) w.heap.size (.slice (some ⟨w.heap.size, 0, none⟩) 0 0) [] :=
  ⟨World.ownsRow_made w #[] 0 (Nat.le_refl _) (Nat.zero_le _) rfl, by simp⟩
theorem grown_alloc {w w' : World} {o : Obj} {row : Option Nat} (h : (w.alloc o).grownBy w' row) : w.grownBy w' row :=
  grown_trans (World.grownBy_alloc w o row) h
theorem wp_app64 {wr : World} {ops : Array Oper} {rest : List Oper} {o : Oper} {a : Act} {Q : Exit → Act → World → Prop}
    (hg : o.guard = none) (s x : Operand) (t : TypeId) (ho : o.op = .call { callee := .builtin .append, args := #[s, x], argTypes := #[t, t] }) (ht : Tryz.prog.underlying t = some (.slice 2))
    {base : Nat} {v : Value} {xs : List Int} (y : Int) (hs : Sl wr base v xs) (hv : a.eval s = v) (hx : a.eval x = .slice (some ⟨wr.heap.size, 0, none⟩) 1 1)
    (hn : xs.length + 1 ≤ 17592186044415) (hbase : base ≤ wr.heap.size)
    (hK : ∀ v' w', Sl w' base v' (xs ++ [y]) → wr.grownBy w' v.ownBlock → wpList Tryz.prog ops Q rest (a.put o.dst v') w') :
    wpList Tryz.prog ops Q (o :: rest) a (wr.alloc (.cells #[.int .i64 y] 2)) := by
  refine wp_append64 hg s x t ho ht base v xs hv (sl_alloc hs _) ⟨wr.heap.size, 0, none⟩ 1 y hx ?_ hn (by simp; omega) fun v' w' h1 h2 => hK v' w' h1 (grown_alloc h2)
  rw [World.cell?_alloc_at _ _ _ _ rfl]; rfl
theorem below_grown {W w w' : World} {v : Value} {xs : List Int} {B : Nat} (hb : Below W.heap.size W w) (hs : Sl w B v xs) (hB : W.heap.size ≤ B) (hg : w.grownBy w' v.ownBlock) : Below W.heap.size W w' :=
  hb.grown hg hb.size fun k hk => Nat.le_trans hB (hs.1.lt k hk).1
end Go.Proofs.YtpcabkdkdnchaaaGreat
namespace Go.Proofs.YtpcabkdkdnchaaaGreat
open Go.RowKit
theorem list_ne_at {xs ys : List Int} {k : Nat} (h1 : k < xs.length) (hn : xs.getD k 0 ≠ ys.getD k 0) : xs ≠ ys := by
  intro e; subst e; exact hn rfl
theorem list_eq_all {xs ys : List Int} (hl : xs.length = ys.length) (h : ∀ j, j < xs.length → xs.getD j 0 = ys.getD j 0) : xs = ys := by
  apply List.ext_getElem hl
  intro i h1 h2
  have := h i h1
  simpa [List.getD_eq_getElem?_getD, List.getElem?_eq_getElem h1, List.getElem?_eq_getElem h2] using this
set_option maxHeartbeats 400000 in
theorem eq_any (w : World) (v1 v2 : Value) (xs ys : List Int) (h1 : Rd w v1 xs) (h2 : Rd w v2 ys) :
    Calls Tryz.prog 47 #[v1, v2] w (RetB w (decide (xs = ys))) := by
  obtain ⟨a, cap, rfl, hl, hc⟩ := h1
  obtain ⟨a2, cap2, rfl, hl2, hc2⟩ := h2
  by_cases hne : xs.length = ys.length
  · have hcmp : ((ys.length : Int) != (ys.length : Int)) = false := by simp
    rw [hne] at hl
    have HNE := Lib.hid hne; clear hne
    have HC := Lib.hid hc; clear hc
    have HC2 := Lib.hid hc2; clear hc2
    rw [HNE.out]
    go_enter Tryz.func47, Tryz.ntmps47
    go_wp2
    go_loopw [5] (fun i wr => ∃ k : Nat, k ≤ ys.length ∧ i = .int .i64 k ∧ Hid (∀ j, j < k → xs.getD j 0 = ys.getD j 0) ∧ Below w.heap.size w wr) (fun i _ => ys.length - (intOf i).toNat)
    case atStart => exact ⟨0, Nat.zero_le _, rfl, fun j hj => absurd hj (by omega), Below.refl _ _⟩
    case round =>
      obtain ⟨k, hk, rfl, hall, hbel⟩ := hrel
      by_cases hlt : k < ys.length
      · obtain ⟨b, off, rfl, hb, hcell⟩ := HC.out k (by rw [HNE.out]; exact hlt)
        obtain ⟨b2, off2, rfl, hb2, hcell2⟩ := HC2.out k hlt
        have c1 : wr.cell? ⟨b, off + k, none⟩ = some (.int .i64 (xs.getD k 0)) := (hbel.cell (p := ⟨b, off + k, none⟩) hb).trans (hcell k (by rw [HNE.out]; exact hlt))
        have c2 : wr.cell? ⟨b2, off2 + k, none⟩ = some (.int .i64 (ys.getD k 0)) := (hbel.cell (p := ⟨b2, off2 + k, none⟩) hb2).trans (hcell2 k hlt)
        clear hcell hcell2 hb hb2
        obtain ⟨x, hx⟩ : ∃ x, x = xs.getD k 0 := ⟨_, rfl⟩
        obtain ⟨y, hy⟩ : ∃ y, y = ys.getD k 0 := ⟨_, rfl⟩
        rw [← hx] at c1
        rw [← hy] at c2
        have HX := Lib.hid hx; clear hx
        have HY := Lib.hid hy; clear hy
        by_cases hxy : x = y
        · subst hxy
          go_wp2
          go_quiet (fail)
          go_wp2
          go_roundw
          case rel =>
            refine ⟨k + 1, by omega, by go_num, fun j hj => ?_, below_quiet hbel⟩
            by_cases hjk : j = k
            · rw [hjk, ← HX.out, ← HY.out]
            · exact hall.out j (by omega)
          case measure => simp [intOf]; omega
        · have hb1 : (x != y) = true := by simpa using hxy
          have hfin : decide (xs = ys) = false := by
            rw [decide_eq_false_iff_not]
            exact list_ne_at (k := k) (by rw [HNE.out]; exact hlt) (by rw [← HX.out, ← HY.out]; exact hxy)
          have HF := Lib.hid hfin; clear hfin hxy
          go_wp2
          go_quiet (fail)
          go_wp2
          go_ret
          rw [HF.out]
          exact ⟨rfl, below_quiet hbel⟩
      · have hfin : decide (xs = ys) = true := by
          rw [decide_eq_true_iff]
          exact list_eq_all HNE.out (fun j hj => hall.out j (by have := HNE.out; omega))
        have HF := Lib.hid hfin; clear hfin
        go_wp2
        go_ret
        rw [HF.out]
        exact ⟨rfl, hbel⟩
  · have hfin : decide (xs = ys) = false := by
      rw [decide_eq_false_iff_not]
      exact fun e => hne (by rw [e])
    have hb1 : ((xs.length : Int) != (ys.length : Int)) = true := by
      rw [bne_iff_ne]; omega
    have HF := Lib.hid hfin; clear hfin hne hc hc2
    go_enter Tryz.func47, Tryz.ntmps47
    go_wp2
    go_ret
    rw [HF.out]
    exact ⟨rfl, Below.refl _ _⟩
theorem eq_refl_any (w : World) (v1 v2 : Value) (xs : List Int) (h1 : Rd w v1 xs) (h2 : Rd w v2 xs) :
    Calls Tryz.prog 47 #[v1, v2] w (RetB w true) := by
  have := eq_any w v1 v2 xs xs h1 h2
  simpa using this
theorem take_snoc {xs : List Int} {k : Nat} (hk : k < xs.length) : xs.take (k + 1) = xs.take k ++ [xs.getD k 0] := by
  rw [List.take_succ_eq_append_getElem hk]; simp [List.getD_eq_getElem?_getD, List.getElem?_eq_getElem hk]
theorem set_fill {xs : List Int} {k : Nat} (hk : k < xs.length) :
    (xs.take k ++ List.replicate (xs.length - k) 0).set k (xs.getD k 0) = xs.take (k + 1) ++ List.replicate (xs.length - (k + 1)) 0 := by
  have hl : (xs.take k).length = k := by simp; omega
  rw [List.set_append, if_neg (by omega), hl, Nat.sub_self, take_snoc hk]
  obtain ⟨m, hm⟩ : ∃ m, xs.length - k = m + 1 := ⟨xs.length - k - 1, by omega⟩
  have hm' : xs.length - (k + 1) = m := by omega
  rw [hm, hm', List.replicate_succ]
  simp
set_option maxHeartbeats 400000 in
theorem to_any (w : World) (v : Value) (xs : List Int) (h : Rd w v xs) :
    Calls Tryz.prog 41 #[v] w (RetL w xs) := by
  obtain ⟨a, cap, rfl, hl, hc⟩ := h
  have HC := Lib.hid hc; clear hc
  go_enter Tryz.func41, Tryz.ntmps41
  go_wp2_with (at_make; refine wp_make64 rfl _ _ _ rfl Tryz.underlying22 .i64 .i64 _ _ xs.length rfl rfl rfl rfl hl ?_; intro w1 hs1 hb1 hz1)
  have HS := Lib.hid hs1; clear hs1
  go_loopw [4] (fun i wr => ∃ k : Nat, k ≤ xs.length ∧ i = .int .i64 k ∧ Sl wr w.heap.size (.slice (some ⟨w.heap.size, 0, none⟩) xs.length xs.length) (xs.take k ++ List.replicate (xs.length - k) 0) ∧ Below w.heap.size w wr) (fun i _ => xs.length - (intOf i).toNat)
  case atStart => exact ⟨0, Nat.zero_le _, rfl, by simpa using HS.out, hb1⟩
  case round =>
    obtain ⟨k, hk, rfl, hs, hbel⟩ := hrel
    by_cases hlt : k < xs.length
    · obtain ⟨b, off, rfl, hb, hcell⟩ := HC.out k hlt
      have c1 : wr.cell? ⟨b, off + k, none⟩ = some (.int .i64 (xs.getD k 0)) := (hbel.cell (p := ⟨b, off + k, none⟩) hb).trans (hcell k hlt)
      have c2 := sl_cell hs (j := k) (by simp; omega)
      have c3 := sl_frozen hs k
      have hset := sl_set hs k (xs.getD k 0)
      rw [set_fill hlt] at hset
      have HSET := Lib.hid hset; clear hset hs
      generalize (List.take k xs ++ List.replicate (xs.length - k) 0).getD k 0 = z at c2
      generalize xs.getD k 0 = x at c1 HSET
      clear hcell
      go_wp2
      go_roundw
      case rel => exact ⟨k + 1, by omega, by go_num, HSET.out.1, hbel.setCell (by simp) _⟩
      case measure => simp [intOf]; omega
    · obtain rfl : k = xs.length := by omega
      have HS2 := Lib.hid hs; clear hs
      go_wp2
      go_ret
      exact ⟨_, rfl, by simpa using HS2.out, hbel⟩
def upTo (k0 : Int) (n : Nat) : List Int := (List.range n).map (fun (i : Nat) => k0 + (i : Int))
theorem upTo_length (k0 : Int) (n : Nat) : (upTo k0 n).length = n := by simp [upTo]
theorem upTo_getD (k0 : Int) (n i : Nat) (h : i < n) : (upTo k0 n).getD i 0 = k0 + i := by
  simp [upTo, List.getD_eq_getElem?_getD, h]
end Go.Proofs.YtpcabkdkdnchaaaGreat
namespace Go.Proofs.YtpcabkdkdnchaaaGreat
open Go.ChangeShapes Go.WideShapes Go.ChangeAt Go.RowKit
theorem own : ownKnob Tryz.prog.godebug = none := by kernel_rfl
theorem laidOut : laidOutB Tryz.prog = true := by kernel_rfl
theorem cells64 : Tryz.prog.cellsOf 2 = 1 := by kernel_rfl
theorem cellsS64 : Tryz.prog.cellsOf 22 = 1 := by kernel_rfl
def In (w : World) (v : Value) (xs : List Int) : Prop :=
  ∃ (a : Option Addr) (cap : Nat), v = .slice a xs.length cap ∧ xs.length ≤ maxLen ∧ (∀ x ∈ xs, (Lit.int .i64 x).wf = true) ∧
    ∀ j, j < xs.length → ∃ b off, a = some ⟨b, off, none⟩ ∧ b < w.heap.size ∧ ∀ i, i < xs.length → w.cell? ⟨b, off + i, none⟩ = some (.int .i64 (xs.getD i 0))
theorem In.rd {w : World} {v : Value} {xs : List Int} (h : In w v xs) (hl : xs.length ≤ 1048576) : Rd w v xs := by
  obtain ⟨a, cap, hv, _, _, hc⟩ := h
  exact ⟨a, cap, hv, by omega, hc⟩
theorem take_getD {zs : List Int} {n i : Nat} (hi : i < n) : (zs.take n).getD i 0 = zs.getD i 0 := by
  simp [List.getD_eq_getElem?_getD, List.getElem?_take, hi]
theorem trodAll_below {H : Type} {enc : TypeId × Value → H} {P : Program} (hl : laidOutB P = true) {W W' : World} (hb : Below W.heap.size W W') :
    ∀ {ts : List TypeId} {vs : List Value} {ds : List (DataW H)} {ps : List MemPlace}, (∀ t ∈ ts, P.readableRec t = true ∧ t < P.types.size) →
      (∀ x ∈ ps, x.block < W.heap.size) → DataW.TrodAll enc P W 0 (fun _ => true) true ts vs ds ps → DataW.TrodAll enc P W' 0 (fun b => decide (b < W.heap.size)) true ts vs ds ps
  | [], _, _, _, _, _, h => by
    obtain ⟨rfl, rfl, rfl⟩ := trodAll_nil h
    exact trodAll_mk0
  | t :: ts, _, _, _, hr, hlt, h => by
    obtain ⟨v, vs1, d, ds1, a, b, rfl, rfl, rfl, h1, h2⟩ := trodAll_cons h
    have h3 := hr t (List.mem_cons_self ..)
    exact ⟨a, b, Below.trod hl h3.1 h3.2 h1 hb (fun x hx => hlt x (List.mem_append_left _ hx)),
      trodAll_below hl hb (fun t' ht' => hr t' (List.mem_cons_of_mem _ ht')) (fun x hx => hlt x (List.mem_append_right _ hx)) h2, rfl⟩
set_option maxRecDepth 100000 in
theorem law_post {H : Type} {enc : TypeId × Value → H} {f : Func} {s : ChangeSpec} {W W' : World} {args : Array Value} {ds : List (DataW H)} {before : List MemPlace}
    (hvars : s.vars = []) (hrt : f.resultTypes.toList = [4]) (hW : DataW.Whole enc Tryz.prog f.params.toList s.vars false W args.toList ds [] before)
    (hts : (f.params.toList.all fun t => Tryz.prog.readableRec t && decide (t < Tryz.prog.types.size)) = true)
    (hres : (s.fn H ds).results = [.lit (.bool true)]) (hargs : (s.fn H ds).args = ds) (hvs : (s.fn H ds).vars = []) (hb : Below W.heap.size W W') :
    s.post enc Tryz.prog f false true false false W args (.bool true) W' := by
  have hlt := hW.lt
  have hW' := hW
  obtain ⟨p, q, hA, hV, rfl, _, _⟩ := hW
  rw [hvars] at hV
  have hq := (trodVars_none hV).2
  refine ⟨ds, [], p ++ q, [], p, [], hW', ?_, ?_, ?_, hb.frame _, fun h => by cases h⟩
  · rw [List.append_nil, hres]
    have hsz : f.resultTypes.size = 1 := by rw [← Array.length_toList, hrt]; rfl
    rw [hsz, hrt]
    exact trodAll_cons_mk (shut_bool Tryz.underlying4 _) trodAll_mk0
  · rw [List.append_nil, hargs]
    exact trodAll_below laidOut hb (fun t ht => by have := List.all_eq_true.1 hts t ht; simpa using this) (fun x hx => hlt x (List.mem_append_left _ hx)) hA
  · rw [List.append_nil, hvs, hvars]
    exact rfl
end Go.Proofs.YtpcabkdkdnchaaaGreat
namespace Go.Proofs.YtpcabkdkdnchaaaGreat
open Go.RowKit
theorem wp_app64x {wr : World} {ops : Array Oper} {rest : List Oper} {o : Oper} {a : Act} {Q : Exit → Act → World → Prop}
    (hg : o.guard = none) (s x : Operand) (t : TypeId) (ho : o.op = .call { callee := .builtin .append, args := #[s, x], argTypes := #[t, t] }) (ht : Tryz.prog.underlying t = some (.slice 2))
    {base : Nat} {v : Value} {xs : List Int} (y : Int) (hs : Sl wr base v xs) (hv : a.eval s = v) (hx : a.eval x = .slice (some ⟨wr.heap.size, 0, none⟩) 1 1)
    (hn : xs.length + 1 ≤ 17592186044415) (hbase : base ≤ wr.heap.size)
    (hK : ∀ v' w', Sl w' base v' (xs ++ [y]) → wr.grownBy w' v.ownBlock → (∀ g, v'.ownBlock = some g → v.ownBlock = some g ∨ wr.heap.size ≤ g) → wpList Tryz.prog ops Q rest (a.put o.dst v') w') :
    wpList Tryz.prog ops Q (o :: rest) a (wr.alloc (.cells #[.int .i64 y] 2)) := by
  obtain ⟨i, hi, hz, hs1, hb⟩ := info_parts info64
  refine wpList_append_own_at (P := Tryz.prog) (wr.alloc (.cells #[.int .i64 y] 2)) hg s x t ho base 2 i (.int .i64 0) 1 8 ht hi hz hs1 hb rfl (by decide) v xs.length (xs.map (Value.int .i64)) hv (sl_alloc hs _).1 ⟨wr.heap.size, 0, none⟩ 1 1 [.int .i64 y] hx rfl (cell_one_new wr _ _) (by simp [Value.oneCell']) (by unfold maxLen; omega) (by omega) (by simp; omega) ?_
  intro v' w' hown hgrow _ hat
  refine hK v' w' ⟨by simpa using hown, by simpa using hn⟩ (grown_alloc hgrow) fun g hgv => ?_
  rcases hat with h | h
  · exact .inl (by rw [← h]; exact hgv)
  · refine .inr ?_
    rw [h] at hgv
    simp at hgv
    omega
theorem apart_grow {wr : World} {B : Nat} {u v v' : Value} {ys : List Int} (hu : Sl wr B u ys) (h : Apart u v) (hv : ∀ g, v'.ownBlock = some g → v.ownBlock = some g ∨ wr.heap.size ≤ g) : Apart u v' := fun g hg hv' => by
  rcases hv g hv' with h1 | h1
  · exact h g hg h1
  · have := (hu.1.lt g hg).2
    omega
end Go.Proofs.YtpcabkdkdnchaaaGreat
set_option linter.unusedSimpArgs false
set_option linter.unusedVariables false
set_option linter.unusedSectionVars false
namespace Go.Proofs.YtpcabkdkdnchaaaGreat
open Go.RowKit
def SizeP (n : Int) : Prop := 0 ≤ n ∧ n ≤ 256
instance (n : Int) : Decidable (SizeP n) := inferInstanceAs (Decidable (_ ∧ _))
def AllP (n : Int) (xs : List Int) : Prop := ∀ x ∈ xs, 0 ≤ x ∧ x < n
instance (n : Int) (xs : List Int) : Decidable (AllP n xs) := inferInstanceAs (Decidable (∀ x ∈ xs, _))
def MapP (n : Int) (xs : List Int) : Prop := SizeP n ∧ xs.length ≤ 256 ∧ AllP n xs
instance (n : Int) (xs : List Int) : Decidable (MapP n xs) := inferInstanceAs (Decidable (_ ∧ _))
theorem mem_getD {xs : List Int} {k : Nat} (hk : k < xs.length) : xs.getD k 0 ∈ xs := by
  rw [List.getD_eq_getElem?_getD, List.getElem?_eq_getElem hk]; exact List.getElem_mem hk
theorem allP_of {n : Int} {xs : List Int} (h : ∀ j, j < xs.length → 0 ≤ xs.getD j 0 ∧ xs.getD j 0 < n) : AllP n xs := by
  intro x hx
  obtain ⟨j, hj, rfl⟩ := List.getElem_of_mem hx
  have := h j hj
  simpa [List.getD_eq_getElem?_getD, List.getElem?_eq_getElem hj] using this
def Same (W : World) (v : Value) (e : Ending) (w' : World) : Prop := e = .returned v ∧ W = w'
theorem bT {p : Prop} [Decidable p] {b : Bool} (hb : decide p = b) (h : p) : b = true := by rw [← hb]; exact decide_eq_true h
theorem bF {p : Prop} [Decidable p] {b : Bool} (hb : decide p = b) (h : ¬ p) : b = false := by rw [← hb]; exact decide_eq_false h
theorem specIn_any (w : World) (n lo hi : Int) (b : Bool) (hb : decide (lo ≤ n ∧ n ≤ hi) = b) :
    Calls Tryz.prog 126 #[.int .i64 n, .int .i64 lo, .int .i64 hi] w (Same w (.bool b)) := by
  by_cases h1 : lo ≤ n
  · by_cases h2 : n ≤ hi
    · obtain rfl := bT hb ⟨h1, h2⟩
      clear hb
      go_enter Tryz.func126, Tryz.ntmps126
      go_wp2
      go_ret
      exact ⟨rfl, rfl⟩
    · obtain rfl := bF hb (by omega)
      clear hb
      go_enter Tryz.func126, Tryz.ntmps126
      go_wp2
      go_ret
      exact ⟨rfl, rfl⟩
  · obtain rfl := bF hb (by omega)
    clear hb
    go_enter Tryz.func126, Tryz.ntmps126
    go_wp2
    go_ret
    exact ⟨rfl, rfl⟩
set_option maxHeartbeats 400000 in
theorem specMap_any (w : World) (n : Int) (v : Value) (xs : List Int) (b : Bool) (h : Rd w v xs) (hb : decide (AllP n xs) = b) :
    Calls Tryz.prog 101 #[.int .i64 n, v] w (RetB w b) := by
  obtain ⟨a, cap, rfl, hl, hc⟩ := h
  have HC := Lib.hid hc; clear hc
  have HB := Lib.hid hb; clear hb
  go_enter Tryz.func101, Tryz.ntmps101
  go_wp2
  go_loopw [5] (fun i wr => ∃ k : Nat, k ≤ xs.length ∧ i = .int .i64 k ∧ Hid (∀ j, j < k → 0 ≤ xs.getD j 0 ∧ xs.getD j 0 < n) ∧ Below w.heap.size w wr) (fun i _ => xs.length - (intOf i).toNat)
  case atStart => exact ⟨0, Nat.zero_le _, rfl, fun j hj => absurd hj (by omega), Below.refl _ _⟩
  case round =>
    obtain ⟨k, hk, rfl, hall, hbel⟩ := hrel
    by_cases hlt : k < xs.length
    · obtain ⟨bb, off, rfl, hbs, hcell⟩ := HC.out k hlt
      have c1 : wr.cell? ⟨bb, off + k, none⟩ = some (.int .i64 (xs.getD k 0)) := (hbel.cell (p := ⟨bb, off + k, none⟩) hbs).trans (hcell k hlt)
      clear hcell
      obtain ⟨x, hx⟩ : ∃ x, x = xs.getD k 0 := ⟨_, rfl⟩
      rw [← hx] at c1
      have HX := Lib.hid hx; clear hx
      by_cases h0 : x < 0
      · have hf : b = false := by
          rw [← HB.out, decide_eq_false_iff_not]
          intro hall'
          have := hall' _ (mem_getD hlt)
          rw [← HX.out] at this
          omega
        subst hf
        go_wp2
        go_ret
        exact ⟨rfl, hbel⟩
      · by_cases h1 : n ≤ x
        · have hf : b = false := by
            rw [← HB.out, decide_eq_false_iff_not]
            intro hall'
            have := hall' _ (mem_getD hlt)
            rw [← HX.out] at this
            omega
          subst hf
          go_wp2
          go_ret
          exact ⟨rfl, hbel⟩
        · go_wp2
          go_roundw
          case rel =>
            refine ⟨k + 1, by omega, by go_num, fun j hj => ?_, hbel⟩
            by_cases hjk : j = k
            · subst hjk; rw [← HX.out]; omega
            · exact hall.out j (by omega)
          case measure => simp [intOf]; omega
    · obtain rfl : k = xs.length := by omega
      have ht : b = true := by
        rw [← HB.out, decide_eq_true_iff]
        exact allP_of hall.out
      subst ht
      go_wp2
      go_ret
      exact ⟨rfl, hbel⟩
end Go.Proofs.YtpcabkdkdnchaaaGreat
namespace Go.Proofs.YtpcabkdkdnchaaaGreat
open Go.RowKit
theorem ret_i {a b : Int} (h : a = b) : Ending.returned (.int .i64 a) = .returned (.int .i64 b) := by rw [h]
end Go.Proofs.YtpcabkdkdnchaaaGreat
namespace Go.Proofs.YtpcabkdkdnchaaaGreat
open Go.RowKit
end Go.Proofs.YtpcabkdkdnchaaaGreat
set_option linter.unusedSimpArgs false
set_option linter.unusedVariables false
set_option linter.unusedSectionVars false
namespace Go.Proofs.YtpcabkdkdnchaaaGreat
open Go.RowKit
def idxI (l : List Int) (x : Int) : Int := if x ∈ l then (l.idxOf x : Int) else -1
theorem idx_hit {l : List Int} {x : Int} : ∀ {k : Nat}, k < l.length → l.getD k 0 = x → (∀ j, j < k → l.getD j 0 ≠ x) → l.idxOf x = k := by
  induction l with
  | nil => intro k hk; simp at hk
  | cons a l ih =>
    intro k hk hx hall
    cases k with
    | zero => simp at hx; simp [hx]
    | succ k =>
      have ha : a ≠ x := by simpa using hall 0 (by omega)
      have := ih (k := k) (by simpa using hk) (by simpa using hx) (fun j hj => by simpa using hall (j + 1) (by omega))
      have hb : (a == x) = false := by simpa using ha
      rw [List.idxOf_cons, hb, this]
      rfl
theorem mem_of_getD {l : List Int} {x : Int} {k : Nat} (hk : k < l.length) (hx : l.getD k 0 = x) : x ∈ l := by
  rw [← hx, List.getD_eq_getElem?_getD, List.getElem?_eq_getElem hk]; exact List.getElem_mem hk
theorem not_mem_of {l : List Int} {x : Int} (h : ∀ j, j < l.length → l.getD j 0 ≠ x) : x ∉ l := fun hm => by
  obtain ⟨j, hj, hx⟩ := List.getElem_of_mem hm
  exact h j hj (by simpa [List.getD_eq_getElem?_getD, List.getElem?_eq_getElem hj] using hx)
set_option maxHeartbeats 400000 in
theorem specIndex_any (w : World) (v : Value) (l : List Int) (x : Int) (h : Rd w v l) :
    Calls Tryz.prog 153 #[v, .int .i64 x] w (RetI w (idxI l x)) := by
  obtain ⟨a, cap, rfl, hl, hc⟩ := h
  have HC := Lib.hid hc; clear hc
  go_enter Tryz.func153, Tryz.ntmps153
  go_wp2
  go_loopw [5] (fun i wr => ∃ k : Nat, k ≤ l.length ∧ i = .int .i64 k ∧ Hid (∀ j, j < k → l.getD j 0 ≠ x) ∧ Below w.heap.size w wr) (fun i _ => l.length - (intOf i).toNat)
  case atStart => exact ⟨0, Nat.zero_le _, rfl, fun j hj => absurd hj (by omega), Below.refl _ _⟩
  case round =>
    obtain ⟨k, hk, rfl, hall, hbel⟩ := hrel
    by_cases hlt : k < l.length
    · obtain ⟨bb, off, rfl, hbs, hcell⟩ := HC.out k hlt
      have c1 : wr.cell? ⟨bb, off + k, none⟩ = some (.int .i64 (l.getD k 0)) := (hbel.cell (p := ⟨bb, off + k, none⟩) hbs).trans (hcell k hlt)
      clear hcell
      obtain ⟨y, hy⟩ : ∃ y, y = l.getD k 0 := ⟨_, rfl⟩
      rw [← hy] at c1
      have HY := Lib.hid hy; clear hy
      by_cases hxy : y = x
      · have hf : idxI l x = k := by
          have h1 : l.getD k 0 = x := by rw [← HY.out]; exact hxy
          rw [idxI, if_pos (mem_of_getD hlt h1), idx_hit hlt h1 hall.out]
        have HF := Lib.hid hf; clear hf
        have ht : (y == x) = true := by simpa using hxy
        clear hxy
        go_wp2
        go_ret
        exact ⟨ret_i HF.out.symm, hbel⟩
      · have ht : (y == x) = false := by simpa using hxy
        have HN := Lib.hid hxy; clear hxy
        go_wp2
        go_roundw
        case rel =>
          refine ⟨k + 1, by omega, by go_num, fun j hj => ?_, hbel⟩
          by_cases hjk : j = k
          · subst hjk; rw [← HY.out]; exact HN.out
          · exact hall.out j (by omega)
        case measure => simp [intOf]; omega
    · obtain rfl : k = l.length := by omega
      have hf : idxI l x = -1 := by rw [idxI, if_neg (not_mem_of hall.out)]
      have HF := Lib.hid hf; clear hf
      go_wp2
      go_ret
      exact ⟨ret_i HF.out.symm, hbel⟩
def seenOf (l : List Int) : List Int := l.foldl (fun s x => if x ∈ s then s else s ++ [x]) []
theorem seenOf_snoc (l : List Int) (x : Int) : seenOf (l ++ [x]) = if x ∈ seenOf l then seenOf l else seenOf l ++ [x] := by
  unfold seenOf; rw [List.foldl_append]; rfl
theorem seenFold_len (l : List Int) : ∀ s : List Int, (l.foldl (fun s x => if x ∈ s then s else s ++ [x]) s).length ≤ s.length + l.length := by
  induction l with
  | nil => intro s; simp
  | cons a l ih =>
    intro s
    have := ih (if a ∈ s then s else s ++ [a])
    simp only [List.foldl_cons, List.length_cons]
    split at this
    · rename_i h; rw [if_pos h]; omega
    · rename_i h; rw [if_neg h]; simp at this; omega
theorem seenOf_len (l : List Int) : (seenOf l).length ≤ l.length := by
  have := seenFold_len l []
  simpa [seenOf] using this
def clsTo (l : List Int) (k : Nat) : List Int := (List.range k).map fun (j : Nat) => ((seenOf (l.take j)).idxOf (l.getD j 0) : Int)
def clsOf (l : List Int) : List Int := clsTo l l.length
theorem clsTo_snoc (l : List Int) (k : Nat) : clsTo l (k + 1) = clsTo l k ++ [((seenOf (l.take k)).idxOf (l.getD k 0) : Int)] := by
  simp [clsTo, List.range_succ]
theorem clsTo_len (l : List Int) (k : Nat) : (clsTo l k).length = k := by simp [clsTo]
set_option maxHeartbeats 1000000 in
set_option maxRecDepth 100000 in
theorem specClasses_any (w : World) (v : Value) (l : List Int) (h : Rd w v l) :
    Calls Tryz.prog 130 #[v] w (RetL w (clsOf l)) := by
  obtain ⟨a, cap, rfl, hl, hc⟩ := h
  have HC := Lib.hid hc; clear hc
  go_enter Tryz.func130, Tryz.ntmps130
  go_wp2
  have E1 := Lib.hid (sl_alloc (sl_empty w) (.cells #[] 2))
  have E2 := Lib.hid ((sl_empty (w.alloc (.cells #[] 2))).mono (base' := w.heap.size) (by simp))
  have hbe : Below w.heap.size w ((w.alloc (.cells #[] 2)).alloc (.cells #[] 2)) := ((Below.refl _ _).alloc (Nat.le_refl _) _).alloc (by simp) _
  go_loopw [3, 4, 5] (fun x y i wr => ∃ k : Nat, k ≤ l.length ∧ i = .int .i64 k ∧ Sl wr w.heap.size x (clsTo l k) ∧ Sl wr w.heap.size y (seenOf (l.take k)) ∧ Apart x y ∧ Below w.heap.size w wr) (fun _ _ i _ => l.length - (intOf i).toNat)
  case atStart => exact ⟨0, Nat.zero_le _, rfl, by simpa [clsTo] using E1.out, by simpa [seenOf] using E2.out, fun g hg => by simp [Value.ownBlock] at hg ⊢; omega, hbe⟩
  case round =>
    obtain ⟨k, hk, rfl, hx, hy, hap, hbel⟩ := hrel
    by_cases hlt : k < l.length
    · obtain ⟨bb, off, rfl, hbs, hcell⟩ := HC.out k hlt
      have c1 : wr.cell? ⟨bb, off + k, none⟩ = some (.int .i64 (l.getD k 0)) := (hbel.cell (p := ⟨bb, off + k, none⟩) hbs).trans (hcell k hlt)
      have ht := take_snoc hlt
      have hcs := clsTo_snoc l k
      have hln := seenOf_len (l.take k)
      have hln2 : (seenOf (l.take k)).length ≤ k := by simp at hln; omega
      have hlc : (clsTo l k).length ≤ k := by simp [clsTo_len]
      clear hln
      obtain ⟨z, hz⟩ : ∃ z, z = l.getD k 0 := ⟨_, rfl⟩
      rw [← hz] at c1 hcs ht
      have hsn := seenOf_snoc (l.take k) z
      rw [← ht] at hsn
      by_cases hm : z ∈ seenOf (l.take k)
      · rw [if_pos hm] at hsn
        have hix : idxI (seenOf (l.take k)) z = ((seenOf (l.take k)).idxOf z : Int) := by rw [idxI, if_pos hm]
        obtain ⟨q, hq⟩ : ∃ q : Nat, (seenOf (l.take k)).idxOf z = q := ⟨_, rfl⟩
        rw [hq] at hix hcs
        have HIX := Lib.hid hix; have HCS := Lib.hid hcs; have HSN := Lib.hid hsn; clear hix hcs hsn hm hz ht hq hcell
        go_wp2_with fail
        refine (specIndex_any _ _ _ z hy.rd).mono ?_
        rintro e w1 ⟨rfl, hb1⟩
        rw [HIX.out]
        replace hx := sl_below hb1 hx
        replace hy := sl_below hb1 hy
        replace hbel := hbel.trans (hb1.mono hbel.size)
        go_wp2_with (at_builtin; refine wp_app64x rfl _ _ _ rfl Tryz.underlying22 (q : Int) hx rfl rfl (by omega) hbel.size ?_; intro v1 w2 hs1 hg1 hgv)
        go_roundw
        case rel => exact ⟨k + 1, by omega, by go_num, by rw [HCS.out]; exact hs1, by rw [HSN.out]; exact sl_kept hy hg1 (apart_ne hap.symm), (apart_grow hy hap.symm hgv).symm, below_grown hbel hx (Nat.le_refl _) hg1⟩
        case measure => simp [intOf]; omega
      · rw [if_neg hm] at hsn
        have hix : idxI (seenOf (l.take k)) z = -1 := by rw [idxI, if_neg hm]
        have hq : (seenOf (l.take k)).idxOf z = (seenOf (l.take k)).length := List.idxOf_eq_length hm
        rw [hq] at hcs
        obtain ⟨a2, cap2, rfl, _⟩ := sl_form hy
        obtain ⟨s, hsd⟩ : ∃ s, s = seenOf (l.take k) := ⟨_, rfl⟩
        rw [← hsd] at hix hcs hsn hln2 hy
        rw [← hsd] at hap
        rw [← hsd]
        have HIX := Lib.hid hix; have HCS := Lib.hid hcs; have HSN := Lib.hid hsn; clear hix hcs hsn hm hz ht hq hcell hsd
        go_wp2_with fail
        refine (specIndex_any _ _ _ z hy.rd).mono ?_
        rintro e w1 ⟨rfl, hb1⟩
        rw [HIX.out]
        replace hx := sl_below hb1 hx
        replace hy := sl_below hb1 hy
        have c2 := (hb1.cell (p := ⟨bb, off + k, none⟩) (Nat.lt_of_lt_of_le hbs hbel.size)).trans c1
        replace hbel := hbel.trans (hb1.mono hbel.size)
        go_wp2_with (first
          | (at_builtin; refine wp_app64x rfl _ _ _ rfl Tryz.underlying22 z hy rfl rfl (by omega) hbel.size ?_; intro v1 w2 hs1 hg1 hgv)
          | (at_builtin; refine wp_app64x rfl _ _ _ rfl Tryz.underlying22 (s.length : Int) (sl_kept hx hg1 (apart_ne hap)) rfl rfl (by omega) (Nat.le_trans hbel.size hg1.size) ?_; intro v2 w3 hs2 hg2 hgv2))
        have hap1 := apart_grow hx hap hgv
        go_roundw
        case rel => exact ⟨k + 1, by omega, by go_num, by rw [HCS.out]; exact hs2, by rw [HSN.out]; exact sl_kept hs1 hg2 (apart_ne hap1.symm), (apart_grow hs1 hap1.symm hgv2).symm, below_grown (below_grown hbel hy (Nat.le_refl _) hg1) (sl_kept hx hg1 (apart_ne hap)) (Nat.le_refl _) hg2⟩
        case measure => simp [intOf]; omega
    · obtain rfl : k = l.length := by omega
      go_wp2
      go_ret
      exact ⟨_, rfl, hx, hbel⟩
end Go.Proofs.YtpcabkdkdnchaaaGreat
namespace Go.Proofs.YtpcabkdkdnchaaaGreat
open Go.RowKit
open Go.Maps
theorem law64 : Keyed Tryz.prog 2 := int_keyed Tryz.underlying2
theorem zero64 (w : World) : (zeroValue 2).run Tryz.prog w = .ok (.int .i64 0) w := by kernel_rfl
def MapIs (D : DataW Unit) (s : List Int) : Prop :=
  Tidy D ∧ Maps.size D = s.length ∧ ∀ x : Int, Maps.has D (.int .i64 x) = decide (x ∈ s) ∧ (x ∈ s → ∀ z, D.atKey (.int .i64 x) z = .lit (.int .i64 (s.idxOf x)))
theorem mapIs_nil : MapIs (.map []) [] := ⟨tidy_empty, rfl, fun x => ⟨by simp [Maps.has], fun h => by simp at h⟩⟩
theorem keyLit (x : Int) : WideAt.IsKeyLit (.int .i64 x) := by simp [WideAt.IsKeyLit]
theorem mapIs_put {D : DataW Unit} {s : List Int} {x : Int} (h : MapIs D s) (hx : x ∉ s) : MapIs (D.put (.int .i64 x) (.lit (.int .i64 s.length))) (s ++ [x]) := by
  obtain ⟨h1, h2, h3⟩ := h
  refine ⟨h1.put (keyLit x) _, ?_, fun y => ?_⟩
  · rw [size_put h1, (h3 x).1]; simp [hx, h2]
  · by_cases hy : y = x
    · subst hy
      refine ⟨by rw [has_put_same h1.isMap (keyLit y)]; simp, fun _ z => ?_⟩
      rw [atKey_put_same h1.isMap (keyLit y)]
      rw [List.idxOf_append, if_neg hx]
      simp
    · have hne : Lit.int IntKind.i64 y ≠ Lit.int IntKind.i64 x := by simpa using hy
      refine ⟨by rw [has_put_other hne, (h3 y).1]; simp [hy], fun hm z => ?_⟩
      have hys : y ∈ s := by simpa [hy] using hm
      rw [atKey_put_other hne, (h3 y).2 hys, List.idxOf_append, if_pos hys]
theorem cls_fill {l : List Int} {k : Nat} (hk : k < l.length) :
    (clsTo l k ++ List.replicate (l.length - k) 0).set k ((seenOf (l.take k)).idxOf (l.getD k 0) : Int) = clsTo l (k + 1) ++ List.replicate (l.length - (k + 1)) 0 := by
  have hl : (clsTo l k).length = k := clsTo_len _ _
  rw [List.set_append, if_neg (by omega), hl, Nat.sub_self, clsTo_snoc]
  obtain ⟨m, hm⟩ : ∃ m, l.length - k = m + 1 := ⟨l.length - k - 1, by omega⟩
  have hm' : l.length - (k + 1) = m := by omega
  rw [hm, hm', List.replicate_succ]
  simp
theorem idx_lt {s : List Int} {x : Int} : s.idxOf x ≤ s.length := List.idxOf_le_length
set_option maxHeartbeats 1000000 in
set_option maxRecDepth 100000 in
theorem partBy_any (w : World) (v : Value) (l : List Int) (h : Rd w v l) (hw : ∀ x ∈ l, (Lit.int .i64 x).wf = true) :
    Calls Tryz.prog 163 #[v] w (RetL w (clsOf l)) := by
  obtain ⟨a, cap, rfl, hl, hc⟩ := h
  have HC := Lib.hid hc; clear hc
  have HW := Lib.hid hw; clear hw
  have hmm := @run_makeMap Tryz.prog
  go_enter Tryz.func163, Tryz.ntmps163
  go_wp2_with (at_make; refine wp_make64 rfl _ _ _ rfl Tryz.underlying165 .i64 .i64 _ _ l.length rfl rfl rfl rfl hl ?_; intro w1 hs1 hb1 hz1)
  have hbm : Below w.heap.size w (w.alloc (.map #[] 0)) := (Below.refl _ _).alloc (Nat.le_refl _) _
  have M1 : Hid (w1.ownsMap Tryz.prog 2 (plainElem (H := Unit) Tryz.prog 2) w.heap.size 0 (.map [])) := by
    obtain ⟨es, clock, hb, r⟩ := World.ownsMap_made w Tryz.prog 2 (plainElem (H := Unit) Tryz.prog 2)
    exact ⟨es, clock, (hb1.block _ (by simp)).trans hb, r⟩
  have S1 := Lib.hid (hs1.mono (base' := w.heap.size) (by simp))
  have hbe := hbm.trans (hb1.mono (by simp))
  clear hs1 hb1 hbm
  simp only [World.size_alloc] at S1
  go_loopw [15] (fun i wr => ∃ k : Nat, k ≤ l.length ∧ i = .int .i64 k ∧ ∃ D, wr.ownsMap Tryz.prog 2 (plainElem (H := Unit) Tryz.prog 2) w.heap.size k D ∧ MapIs D (seenOf (l.take k)) ∧ Sl wr w.heap.size (.slice (some ⟨w.heap.size + 1, 0, none⟩) l.length l.length) (clsTo l k ++ List.replicate (l.length - k) 0) ∧ Below w.heap.size w wr) (fun i _ => l.length - (intOf i).toNat)
  case atStart => exact ⟨0, Nat.zero_le _, rfl, _, M1.out, by simpa [seenOf] using mapIs_nil, by simpa [clsTo] using S1.out, hbe⟩
  case round =>
    obtain ⟨k, hk, rfl, D, hown, hD, hs, hbel⟩ := hrel
    by_cases hlt : k < l.length
    · obtain ⟨bb, off, rfl, hbs, hcell⟩ := HC.out k hlt
      have c1 : wr.cell? ⟨bb, off + k, none⟩ = some (.int .i64 (l.getD k 0)) := (hbel.cell (p := ⟨bb, off + k, none⟩) hbs).trans (hcell k hlt)
      have hkey : keyOf Tryz.prog 2 (.int .i64 (l.getD k 0)) = some (.int .i64 (l.getD k 0)) := keyOf_int_mk Tryz.underlying2 (HW.out _ (mem_getD hlt))
      have hsn := seenOf_snoc (l.take k) (l.getD k 0)
      rw [← take_snoc hlt] at hsn
      have hfill := cls_fill hlt
      have hln := seenOf_len (l.take k)
      have hln2 : (seenOf (l.take k)).length ≤ k := by simp at hln; omega
      have hil := idx_lt (s := seenOf (l.take k)) (x := l.getD k 0)
      clear hln hcell
      obtain ⟨x, hx⟩ : ∃ x, x = l.getD k 0 := ⟨_, rfl⟩
      rw [← hx] at c1 hkey hsn hfill hil
      obtain ⟨s, hsd⟩ : ∃ s, s = seenOf (l.take k) := ⟨_, rfl⟩
      rw [← hsd] at hsn hfill hln2 hD hil
      have HK := Lib.hid hkey; clear hkey
      clear hsd hx
      by_cases hm : x ∈ s
      · rw [if_pos hm] at hsn
        have hhas : Maps.has D (.int .i64 x) = true := by rw [(hD.2.2 x).1]; simpa using hm
        have hat := Lib.hid ((hD.2.2 x).2 hm)
        obtain ⟨q, hq⟩ : ∃ q : Nat, s.idxOf x = q := ⟨_, rfl⟩
        rw [hq] at hat hfill hil
        have HF := Lib.hid hfill; have HSN := Lib.hid hsn; have HD := Lib.hid hD; clear hfill hsn hm hq hD
        have hset := sl_set hs k (q : Int)
        have c3 := sl_cell hs (j := k) (by simp [clsTo_len]; omega)
        have c4 := sl_frozen hs k
        rw [HF.out] at hset
        have HSET := Lib.hid hset; clear hset
        generalize (clsTo l k ++ List.replicate (l.length - k) 0).getD k 0 = z at c3
        clear hs
        go_wp2_with (at_lookup; (refine wpList_lookup_own_ok_int _ rfl _ _ 194 rfl 2 2 .i64 law64 Tryz.underlying194 Tryz.underlying2 (zero64 _) w.heap.size k _ rfl hown _ _ rfl HK.out ?_; intro c hc hwc; rw [hat.out] at hc; (obtain rfl : (q : Int) = c := by simpa using hc); clear hc hwc))
        go_roundw
        case rel => exact ⟨k + 1, by omega, by go_num, D, (hown.kept HSET.out.2 (by simp)).mono (by omega), by rw [HSN.out]; exact HD.out, HSET.out.1, hbel.setCell (by simp) _⟩
        case measure => simp [intOf]; omega
      · rw [if_neg hm] at hsn
        have hhas : Maps.has D (.int .i64 x) = false := by rw [(hD.2.2 x).1]; simpa using hm
        have hat := Lib.hid (atKey_of_not_has hhas (.lit (.int .i64 0)))
        have hsz : Maps.size D = s.length := hD.2.1
        have hq : s.idxOf x = s.length := List.idxOf_eq_length hm
        rw [hq] at hfill
        have hwf : (Lit.int IntKind.i64 (s.length : Int)).wf = true := WalkArith.wf_i64 (by omega)
        have HWF := Lib.hid hwf; clear hwf
        have HF := Lib.hid hfill; have HSN := Lib.hid hsn; have HD := Lib.hid (mapIs_put hD hm); clear hfill hsn hm hq hD
        go_wp2_with (first
          | (at_lookup; (refine wpList_lookup_own_ok_int _ rfl _ _ 194 rfl 2 2 .i64 law64 Tryz.underlying194 Tryz.underlying2 (zero64 _) w.heap.size k _ rfl hown _ _ rfl HK.out ?_; intro c hc hwc; rw [hat.out] at hc; (obtain rfl : (0 : Int) = c := by simpa using hc); clear hc hwc))
          | (at_len; refine wpList_len_own _ rfl _ _ rfl 2 2 Tryz.underlying194 _ w.heap.size k _ rfl hown ?_)
          | (at_mapUpdate; (refine wpList_mapUpdate_own _ rfl _ _ _ 194 rfl 2 2 law64 Tryz.underlying194 _ w.heap.size k _ rfl hown (by unfold maxLen; omega) _ _ _ rfl rfl HK.out _ [] (plainElem_int Tryz.underlying2 HWF.out) ?_; intro w2 hown2 hgrow2; have hs2 := sl_kept hs hgrow2 (by simp [Value.ownBlock]); have hset := sl_set hs2 k (s.length : Int); have c3 := sl_cell hs2 (j := k) (by simp [clsTo_len]; omega); have c4 := sl_frozen hs2 k; rw [HF.out] at hset; have HSET := Lib.hid hset; clear hset; generalize (clsTo l k ++ List.replicate (l.length - k) 0).getD k 0 = z at c3; clear hs2)))
        go_roundw
        case rel => exact ⟨k + 1, by omega, by go_num, _, (hown2.kept HSET.out.2 (by simp)), by rw [HSN.out]; exact HD.out, HSET.out.1, (hbel.grown hgrow2 hbel.size (by simp)).setCell (by simp) _⟩
        case measure => simp [intOf]; omega
    · obtain rfl : k = l.length := by omega
      have HS2 := Lib.hid hs; clear hs
      go_wp2
      go_ret
      exact ⟨_, rfl, by simpa [clsOf] using HS2.out, hbel⟩
end Go.Proofs.YtpcabkdkdnchaaaGreat
namespace Go.Proofs.YtpcabkdkdnchaaaGreat
open Go.RowKit
theorem clsOf_len (l : List Int) : (clsOf l).length = l.length := clsTo_len _ _
theorem clsOf_getD {l : List Int} {k : Nat} (hk : k < l.length) : (clsOf l).getD k 0 = ((seenOf (l.take k)).idxOf (l.getD k 0) : Int) := by
  unfold clsOf clsTo
  simp [List.getD_eq_getElem?_getD, hk]
theorem not_mem_upTo {c : Nat} {x : Int} (h : x < 0 ∨ (c : Int) ≤ x) : x ∉ upTo 0 c := by
  intro hm
  simp only [upTo, List.mem_map, List.mem_range] at hm
  obtain ⟨j, hj, rfl⟩ := hm
  omega
theorem mem_upTo {c : Nat} {x : Int} (h0 : 0 ≤ x) (h1 : x < c) : x ∈ upTo 0 c := by
  simp only [upTo, List.mem_map, List.mem_range]
  exact ⟨x.toNat, by omega, by omega⟩
theorem upTo_succ (c : Nat) : upTo 0 (c + 1) = upTo 0 c ++ [(c : Int)] := by simp [upTo, List.range_succ]
def PartP (p : List Int) : Prop := p.length ≤ 256 ∧ p = clsOf p
instance (p : List Int) : Decidable (PartP p) := inferInstanceAs (Decidable (_ ∧ _))
end Go.Proofs.YtpcabkdkdnchaaaGreat
namespace Go.Proofs.YtpcabkdkdnchaaaGreat
open Go.RowKit
def Rd2 (w : World) (v : Value) (rows : List (List Int)) : Prop :=
  ∃ (a : Option Addr) (cap : Nat), v = .slice a rows.length cap ∧ rows.length ≤ 5000000000000 ∧
    ∀ j, j < rows.length → ∃ b off, a = some ⟨b, off, none⟩ ∧ b < w.heap.size ∧ ∀ i, i < rows.length → ∃ u, w.cell? ⟨b, off + i, none⟩ = some u ∧ Rd w u (rows.getD i [])
theorem rd2_below {w w' : World} {v : Value} {rows : List (List Int)} (hb : Below w.heap.size w w') (h : Rd2 w v rows) : Rd2 w' v rows := by
  obtain ⟨a, cap, hv, hl, hc⟩ := h
  refine ⟨a, cap, hv, hl, fun j hj => ?_⟩
  obtain ⟨b, off, ha, hbs, hcell⟩ := hc j hj
  refine ⟨b, off, ha, Nat.lt_of_lt_of_le hbs hb.size, fun i hi => ?_⟩
  obtain ⟨u, h1, h2⟩ := hcell i hi
  exact ⟨u, (hb.cell (p := ⟨b, off + i, none⟩) hbs).trans h1, rd_below hb h2⟩
def Sl2 (w : World) (base : Nat) (v : Value) (rows : List (List Int)) : Prop :=
  ∃ us : List Value, us.length = rows.length ∧ rows.length ≤ 5000000000000 ∧ w.ownsRow base 22 1 v rows.length us ∧
    (∀ i, i < rows.length → Sl w base (us.getD i undef) (rows.getD i []) ∧ Apart (us.getD i undef) v) ∧
    ∀ i j, i < j → j < rows.length → Apart (us.getD i undef) (us.getD j undef)
theorem sl2_rd {w : World} {base : Nat} {v : Value} {rows : List (List Int)} (h : Sl2 w base v rows) : Rd2 w v rows := by
  obtain ⟨us, hul, hl, ⟨hlen, hor⟩, hr, _⟩ := h
  rcases hor with ⟨hv, hn⟩ | ⟨g, cap, cur, hv, hb, hg, hnc, hcm, hcs, ht⟩
  · exact ⟨none, 0, by rw [hv, hn], hl, fun j hj => by omega⟩
  · refine ⟨some ⟨g, 0, none⟩, cap, hv, hl, fun j hj => ⟨g, 0, rfl, (Array.getElem?_eq_some_iff.1 hg).1, fun i hi => ⟨us.getD i undef, ?_, (hr i hi).1.rd⟩⟩⟩
    have h1 : us[i]? = some (us.getD i undef) := by
      rw [List.getD_eq_getElem?_getD, List.getElem?_eq_getElem (by omega)]; rfl
    rw [← ht] at h1
    rw [cell_of_row w g (0 + i) cur _ (0, 0) hg]
    rw [List.getElem?_take] at h1
    split at h1
    · rw [Nat.zero_add, ← ht]; simpa using h1
    · cases h1
theorem infoS : (Tryz.prog.info? 22).map (fun i => (i.zero, i.size, i.bytes)) = some (some (.slice none 0 0), 1, 24) := by kernel_rfl
theorem sl2_below {w w' : World} {base : Nat} {v : Value} {rows : List (List Int)} (hb : Below w.heap.size w w') (h : Sl2 w base v rows) : Sl2 w' base v rows := by
  obtain ⟨us, h1, h2, ⟨h3, h4⟩, h5, h6⟩ := h
  refine ⟨us, h1, h2, ⟨h3, ?_⟩, fun i hi => ⟨sl_below hb (h5 i hi).1, (h5 i hi).2⟩, h6⟩
  rcases h4 with h | ⟨g, cap, cur, hv, hbb, hg, rest⟩
  · exact .inl h
  · exact .inr ⟨g, cap, cur, hv, hbb, by rw [hb.block g (Array.getElem?_eq_some_iff.1 hg).1]; exact hg, rest⟩
end Go.Proofs.YtpcabkdkdnchaaaGreat
