
/- The words of this seat's proofs: what a slice of int64 reads as in memory, and what a call leaves of what was there before. | The laws' own helpers: comparing two lists. | How a given row is met: its arguments opened, what the call leaves of them read again. | Two rows of the call's own: appending to one leaves the other. -/
import Derived.Test.YtgkfampgofjkfaaRows
import Derived.WalkKit
import Derived.ProofKit
import Derived.OpenShut
import Derived.Handy
import Derived.Lib.Hide
import Derived.Deep.QuietTactic
import Derived.BigQuiet
import Derived.Carry
import Derived.SizedLaws
import Derived.ChangeSlices
import Derived.Deep.Matrix
import Derived.Maps.AppendAt
set_option linter.unusedSimpArgs false
set_option linter.unusedVariables false
set_option linter.unusedSectionVars false
namespace Go.Proofs.Ytgkfampgofjkfaa
open Go.RowKit

/-- v reads in w as the numbers xs. -/
def Rd (w : World) (v : Value) (xs : List Int) : Prop :=
  ∃ (a : Option Addr) (cap : Nat), v = .slice a xs.length cap ∧ xs.length ≤ 17592186044415 ∧
    ∀ j, j < xs.length → ∃ b off, a = some ⟨b, off, none⟩ ∧ b < w.heap.size ∧ ∀ i, i < xs.length → w.cell? ⟨b, off + i, none⟩ = some (.int .i64 (xs.getD i 0))

/-- v is a slice in a block of its own, from block number base on, that holds xs. -/
def Sl (w : World) (base : Nat) (v : Value) (xs : List Int) : Prop :=
  w.ownsRow base 2 1 v xs.length (xs.map (Value.int .i64)) ∧ xs.length ≤ 17592186044415

theorem rd_below {w w' : World} {v : Value} {xs : List Int} (hb : Below w.heap.size w w') (h : Rd w v xs) : Rd w' v xs := by
  obtain ⟨a, cap, hv, hl, hc⟩ := h
  refine ⟨a, cap, hv, hl, fun j hj => ?_⟩
  obtain ⟨b, off, ha, hbs, hcell⟩ := hc j hj
  exact ⟨b, off, ha, Nat.lt_of_lt_of_le hbs hb.size, fun i hi => (hb.cell (p := ⟨b, off + i, none⟩) hbs).trans (hcell i hi)⟩

theorem Sl.rd {w : World} {base : Nat} {v : Value} {xs : List Int} (h : Sl w base v xs) : Rd w v xs := by
  obtain ⟨⟨hlen, hor⟩, hl⟩ := h
  rcases hor with ⟨hv, hn⟩ | ⟨g, cap, cur, hv, hb, hg, hnc, hcm, hcs, ht⟩
  · exact ⟨none, 0, by rw [hv, hn], hl, fun j hj => by omega⟩
  · refine ⟨some ⟨g, 0, none⟩, cap, hv, hl, fun j hj => ⟨g, 0, rfl, (Array.getElem?_eq_some_iff.1 hg).1, fun i hi => ?_⟩⟩
    have h1 : (xs.map (Value.int .i64))[i]? = some (.int .i64 (xs.getD i 0)) := by
      simp [List.getD_eq_getElem?_getD, List.getElem?_eq_getElem hi]
    rw [← ht] at h1
    rw [cell_of_row w g (0 + i) cur _ (0, 0) hg]
    rw [List.getElem?_take] at h1
    split at h1
    · simpa using h1
    · cases h1

theorem sl_below {w w' : World} {base : Nat} {v : Value} {xs : List Int} (hb : Below w.heap.size w w') (h : Sl w base v xs) : Sl w' base v xs := by
  obtain ⟨⟨hlen, hor⟩, hl⟩ := h
  refine ⟨⟨hlen, ?_⟩, hl⟩
  rcases hor with h | ⟨g, cap, cur, hv, hbb, hg, rest⟩
  · exact .inl h
  · exact .inr ⟨g, cap, cur, hv, hbb, by rw [hb.block g (Array.getElem?_eq_some_iff.1 hg).1]; exact hg, rest⟩

theorem Sl.mono {w : World} {base base' : Nat} {v : Value} {xs : List Int} (h : Sl w base v xs) (hb : base' ≤ base) : Sl w base' v xs := by
  obtain ⟨⟨hlen, hor⟩, hl⟩ := h
  refine ⟨⟨hlen, ?_⟩, hl⟩
  rcases hor with h | ⟨g, cap, cur, hv, hbb, rest⟩
  · exact .inl h
  · exact .inr ⟨g, cap, cur, hv, Nat.le_trans hb hbb, rest⟩

theorem Sl.nil (w : World) (base : Nat) : Sl w base (.slice none 0 0) [] := ⟨World.ownsRow_nil w base _ 1, by simp⟩

theorem below_quiet {B : Nat} {a w : World} {n : Nat} (h : Below B a w) : Below B a (w.drewN n) := ⟨h.os, h.tape, h.output, h.size, h.block⟩

def RetB (W : World) (b : Bool) (e : Ending) (w' : World) : Prop := e = .returned (.bool b) ∧ Below W.heap.size W w'
def RetI (W : World) (n : Int) (e : Ending) (w' : World) : Prop := e = .returned (.int .i64 n) ∧ Below W.heap.size W w'
theorem sl_quiet {w : World} {base : Nat} {v : Value} {xs : List Int} {n : Nat} (h : Sl w base v xs) : Sl (w.drewN n) base v xs := h

def RetII (W : World) (n c : Int) (e : Ending) (w' : World) : Prop := e = .returned (.tuple #[.int .i64 n, .int .i64 c]) ∧ Below W.heap.size W w'
def RetL (W : World) (xs : List Int) (e : Ending) (w' : World) : Prop := ∃ v, e = .returned v ∧ Sl w' W.heap.size v xs ∧ Below W.heap.size W w'
def RetLI (W : World) (xs : List Int) (c : Int) (e : Ending) (w' : World) : Prop := ∃ v, e = .returned (.tuple #[v, .int .i64 c]) ∧ Sl w' W.heap.size v xs ∧ Below W.heap.size W w'

/-- Two values do not lie in one block. -/
def Apart (v u : Value) : Prop := ∀ g, v.ownBlock = some g → u.ownBlock ≠ some g

theorem Apart.symm {v u : Value} (h : Apart v u) : Apart u v := fun g hg hv => h g hv hg

theorem apart_ne {v u : Value} (h : Apart v u) : v.ownBlock = none ∨ v.ownBlock ≠ u.ownBlock := by
  cases hv : v.ownBlock with
  | none => exact .inl rfl
  | some g => exact .inr fun e => h g hv e.symm

/-- What was there and what came behind it. -/
theorem apart_of {w w' : World} {B : Nat} {v u : Value} {xs ys : List Int} (h : Sl w B v xs) (h' : Sl w' w.heap.size u ys) : Apart v u := fun g hg hu => by
  have a := (h.1.lt g hg).2
  have b := (h'.1.lt g hu).1
  omega

theorem info64 : (Try.prog.info? 2).map (fun i => (i.zero, i.size, i.bytes)) = some (some (.int .i64 0), 1, 8) := by kernel_rfl

theorem sl_lt {w : World} {base : Nat} {g n cap : Nat} {xs : List Int} (h : Sl w base (.slice (some ⟨g, 0, none⟩) n cap) xs) : base ≤ g ∧ g < w.heap.size :=
  h.1.lt g rfl

theorem sl_cell {w : World} {base : Nat} {g n cap : Nat} {xs : List Int} (h : Sl w base (.slice (some ⟨g, 0, none⟩) n cap) xs) {j : Nat} (hj : j < xs.length) :
    w.cell? ⟨g, j, none⟩ = some (.int .i64 (xs.getD j 0)) := by
  obtain ⟨a, cap', hv, _, hc⟩ := h.rd
  obtain ⟨b, off, ha, _, hcell⟩ := hc j hj
  subst ha
  simp only [Value.slice.injEq, Option.some.injEq, Addr.mk.injEq] at hv
  obtain ⟨⟨rfl, rfl, _⟩, _⟩ := hv
  simpa using hcell j hj

theorem sl_len {w : World} {base : Nat} {a : Option Addr} {n cap : Nat} {xs : List Int} (h : Sl w base (.slice a n cap) xs) : n = xs.length := by
  obtain ⟨a', cap', hv, _⟩ := h.rd
  simp only [Value.slice.injEq] at hv
  exact hv.2.1

theorem sl_frozen {w : World} {base : Nat} {g n cap : Nat} {xs : List Int} (h : Sl w base (.slice (some ⟨g, 0, none⟩) n cap) xs) (j : Nat) : w.frozen? ⟨g, j, none⟩ = false := by
  have := sl_len h
  subst this
  exact h.1.frozenAt j

theorem sl_set {w : World} {base : Nat} {g n cap : Nat} {xs : List Int} (h : Sl w base (.slice (some ⟨g, 0, none⟩) n cap) xs) (j : Nat) (x : Int) :
    Sl (w.setCell ⟨g, j, none⟩ (.int .i64 x)) base (.slice (some ⟨g, 0, none⟩) n cap) (xs.set j x) ∧ w.grownBy (w.setCell ⟨g, j, none⟩ (.int .i64 x)) (some g) := by
  have := sl_len h
  subst this
  have hs := h.1.stored j (.int .i64 x)
  refine ⟨⟨?_, by simpa using h.2⟩, hs.2⟩
  have := hs.1
  rw [← List.map_set] at this
  simpa using this

/-- A row that another block's write does not touch. -/
theorem sl_kept {w w' : World} {base : Nat} {v : Value} {xs : List Int} {row : Option Nat} (h : Sl w base v xs) (hg : w.grownBy w' row) (hne : v.ownBlock = none ∨ v.ownBlock ≠ row) : Sl w' base v xs :=
  ⟨h.1.kept hg hne, h.2⟩

theorem rd_alloc {w : World} {v : Value} {xs : List Int} (h : Rd w v xs) (o : Obj) : Rd (w.alloc o) v xs :=
  rd_below ((Below.refl _ _).alloc (Nat.le_refl _) o) h

theorem grown_refl (w : World) (row : Option Nat) : w.grownBy w row := ⟨rfl, rfl, rfl, Nat.le_refl _, fun _ _ _ => rfl⟩

theorem grown_trans {a b c : World} {row : Option Nat} (h : a.grownBy b row) (k : b.grownBy c row) : a.grownBy c row :=
  ⟨k.os.trans h.os, k.tape.trans h.tape, k.output.trans h.output, Nat.le_trans h.size k.size, fun i hi hr => (k.block i (Nat.lt_of_lt_of_le hi h.size) hr).trans (h.block i hi hr)⟩

theorem grown_quiet {a b : World} {row : Option Nat} (h : a.grownBy b row) (n : Nat) : a.grownBy (b.drewN n) row := ⟨h.os, h.tape, h.output, h.size, h.block⟩

theorem sl_form {w : World} {base : Nat} {v : Value} {xs : List Int} (h : Sl w base v xs) :
    ∃ (a : Option Addr) (cap : Nat), v = .slice a xs.length cap ∧ ∀ j, j < xs.length → ∃ g, a = some ⟨g, 0, none⟩ := by
  obtain ⟨⟨hlen, hor⟩, hl⟩ := h
  rcases hor with ⟨hv, hn⟩ | ⟨g, cap, cur, hv, hb, hg, hnc, hcm, hcs, ht⟩
  · exact ⟨none, 0, by rw [hv, hn], fun j hj => by omega⟩
  · exact ⟨some ⟨g, 0, none⟩, cap, hv, fun j hj => ⟨g, rfl⟩⟩

theorem sl_alloc {w : World} {base : Nat} {v : Value} {xs : List Int} (h : Sl w base v xs) (o : Obj) : Sl (w.alloc o) base v xs :=
  sl_below ((Below.refl _ _).alloc (Nat.le_refl _) o) h

theorem madeOne (n : Nat) : (madeCells #[Value.int .i64 0] n).toList = (List.replicate n (0 : Int)).map (Value.int .i64) := by
  rw [toList_madeCells_one]; simp

/-- 'make([]int64, n)'. -/
theorem wp_make64 {w : World} {ops : Array Oper} {rest : List Oper} {o : Oper} {a : Act} {Q : Exit → Act → World → Prop}
    (hg : o.guard = none) (l c : Operand) (t : TypeId) (hop : o.op = Op.makeSlice t l c) (ht : Try.prog.underlying t = some (.slice 2))
    (kl kc : IntKind) (L C : Int) (n : Nat) (hl : a.eval l = .int kl L) (hc : a.eval c = .int kc C) (hL : L = (n : Int)) (hC : C = (n : Int)) (hn : n ≤ 17592186044415)
    (hK : ∀ w', Sl w' w.heap.size (.slice (some ⟨w.heap.size, 0, none⟩) n n) (List.replicate n 0) → Below w.heap.size w w' → w.heap.size < w'.heap.size → wpList Try.prog ops Q rest (a.put o.dst (.slice (some ⟨w.heap.size, 0, none⟩) n n)) w') :
    wpList Try.prog ops Q (o :: rest) a w := by
  obtain ⟨i, hi, hz, hs, hb⟩ := info_parts info64
  refine wpList_make_full w hg l c t hop w.heap.size 2 i (.int .i64 0) 1 ht hi hz hs kl kc L C n hl hc hL hC (by rw [hb]; omega) (by unfold maxLen; omega) (Nat.le_refl _) ?_
  intro w' hown hgrow
  have hs' : Sl w' w.heap.size (.slice (some ⟨w.heap.size, 0, none⟩) n n) (List.replicate n 0) := by
    refine ⟨?_, by simpa using hn⟩
    simp only [Value.cells, Nat.mul_one] at hown
    rw [madeOne] at hown
    simpa using hown
  exact hK w' hs' ((Below.refl _ _).grown hgrow (Nat.le_refl _) (by simp)) (sl_lt hs').2

/-- 'append(s, x)', s a slice of the call's own. -/
theorem wp_append64 {w : World} {ops : Array Oper} {rest : List Oper} {o : Oper} {a : Act} {Q : Exit → Act → World → Prop}
    (hg : o.guard = none) (s x : Operand) (t : TypeId) (ho : o.op = .call { callee := .builtin .append, args := #[s, x], argTypes := #[t, t] }) (ht : Try.prog.underlying t = some (.slice 2))
    (base : Nat) (v : Value) (xs : List Int) (hv : a.eval s = v) (hs : Sl w base v xs) (ad : Addr) (c : Nat) (y : Int) (hx : a.eval x = .slice (some ad) 1 c) (hy : w.cell? ad = some (.int .i64 y))
    (hn : xs.length + 1 ≤ 17592186044415) (hbase : base ≤ w.heap.size)
    (hK : ∀ v' w', Sl w' base v' (xs ++ [y]) → w.grownBy w' v.ownBlock → wpList Try.prog ops Q rest (a.put o.dst v') w') :
    wpList Try.prog ops Q (o :: rest) a w := by
  obtain ⟨i, hi, hz, hs1, hb⟩ := info_parts info64
  refine wpList_append_own w hg s x t ho base 2 i (.int .i64 0) 1 8 ht hi hz hs1 hb rfl (by decide) v xs.length (xs.map (Value.int .i64)) hv hs.1 ad 1 c [.int .i64 y] hx rfl ?_ (by simp [Value.oneCell']) (by unfold maxLen; omega) (by omega) hbase ?_
  · intro j u hu
    cases j with
    | zero => simp at hu; subst hu; simpa [Addr.add] using hy
    | succ j => simp at hu
  · intro v' w' hown hgrow _
    refine hK v' w' ⟨?_, by simpa using hn⟩ hgrow
    simpa using hown

def RetLLI (W : World) (xs ys : List Int) (c : Int) (e : Ending) (w' : World) : Prop :=
  ∃ v u, e = .returned (.tuple #[v, u, .int .i64 c]) ∧ Sl w' W.heap.size v xs ∧ Sl w' W.heap.size u ys ∧ Apart v u ∧ Below W.heap.size W w'

theorem sl_empty (w : World) : Sl (w.alloc (.cells #[] 2)) w.heap.size (.slice (some ⟨w.heap.size, 0, none⟩) 0 0) [] :=
  ⟨World.ownsRow_made w #[] 0 (Nat.le_refl _) (Nat.zero_le _) rfl, by simp⟩

theorem grown_alloc {w w' : World} {o : Obj} {row : Option Nat} (h : (w.alloc o).grownBy w' row) : w.grownBy w' row :=
  grown_trans (World.grownBy_alloc w o row) h

/-- 'append(s, y)', as the translation has it: y stands in a new block of one cell. -/
theorem wp_app64 {wr : World} {ops : Array Oper} {rest : List Oper} {o : Oper} {a : Act} {Q : Exit → Act → World → Prop}
    (hg : o.guard = none) (s x : Operand) (t : TypeId) (ho : o.op = .call { callee := .builtin .append, args := #[s, x], argTypes := #[t, t] }) (ht : Try.prog.underlying t = some (.slice 2))
    {base : Nat} {v : Value} {xs : List Int} (y : Int) (hs : Sl wr base v xs) (hv : a.eval s = v) (hx : a.eval x = .slice (some ⟨wr.heap.size, 0, none⟩) 1 1)
    (hn : xs.length + 1 ≤ 17592186044415) (hbase : base ≤ wr.heap.size)
    (hK : ∀ v' w', Sl w' base v' (xs ++ [y]) → wr.grownBy w' v.ownBlock → wpList Try.prog ops Q rest (a.put o.dst v') w') :
    wpList Try.prog ops Q (o :: rest) a (wr.alloc (.cells #[.int .i64 y] 2)) := by
  refine wp_append64 hg s x t ho ht base v xs hv (sl_alloc hs _) ⟨wr.heap.size, 0, none⟩ 1 y hx ?_ hn (by simp; omega) fun v' w' h1 h2 => hK v' w' h1 (grown_alloc h2)
  rw [World.cell?_alloc_at _ _ _ _ rfl]; rfl

/-- Below, behind a step that writes a row of the call's own. -/
theorem below_grown {W w w' : World} {v : Value} {xs : List Int} {B : Nat} (hb : Below W.heap.size W w) (hs : Sl w B v xs) (hB : W.heap.size ≤ B) (hg : w.grownBy w' v.ownBlock) : Below W.heap.size W w' :=
  hb.grown hg hb.size fun k hk => Nat.le_trans hB (hs.1.lt k hk).1

end Go.Proofs.Ytgkfampgofjkfaa

namespace Go.Proofs.Ytgkfampgofjkfaa
open Go.RowKit

theorem list_ne_at {xs ys : List Int} {k : Nat} (h1 : k < xs.length) (hn : xs.getD k 0 ≠ ys.getD k 0) : xs ≠ ys := by
  intro e; subst e; exact hn rfl

theorem list_eq_all {xs ys : List Int} (hl : xs.length = ys.length) (h : ∀ j, j < xs.length → xs.getD j 0 = ys.getD j 0) : xs = ys := by
  apply List.ext_getElem hl
  intro i h1 h2
  have := h i h1
  simpa [List.getD_eq_getElem?_getD, List.getElem?_eq_getElem h1, List.getElem?_eq_getElem h2] using this

set_option maxHeartbeats 400000 in
theorem eq_any (w : World) (v1 v2 : Value) (xs ys : List Int) (h1 : Rd w v1 xs) (h2 : Rd w v2 ys) :
    Calls Try.prog 14 #[v1, v2] w (RetB w (decide (xs = ys))) := by
  obtain ⟨a, cap, rfl, hl, hc⟩ := h1
  obtain ⟨a2, cap2, rfl, hl2, hc2⟩ := h2
  by_cases hne : xs.length = ys.length
  · have hcmp : ((ys.length : Int) != (ys.length : Int)) = false := by simp
    rw [hne] at hl
    have HNE := Lib.hid hne; clear hne
    have HC := Lib.hid hc; clear hc
    have HC2 := Lib.hid hc2; clear hc2
    rw [HNE.out]
    go_enter Try.func14, Try.ntmps14
    go_wp2
    go_loopw [5] (fun i wr => ∃ k : Nat, k ≤ ys.length ∧ i = .int .i64 k ∧ Hid (∀ j, j < k → xs.getD j 0 = ys.getD j 0) ∧ Below w.heap.size w wr) (fun i _ => ys.length - (intOf i).toNat)
    case atStart => exact ⟨0, Nat.zero_le _, rfl, fun j hj => absurd hj (by omega), Below.refl _ _⟩
    case round =>
      obtain ⟨k, hk, rfl, hall, hbel⟩ := hrel
      by_cases hlt : k < ys.length
      · obtain ⟨b, off, rfl, hb, hcell⟩ := HC.out k (by rw [HNE.out]; exact hlt)
        obtain ⟨b2, off2, rfl, hb2, hcell2⟩ := HC2.out k hlt
        have c1 : wr.cell? ⟨b, off + k, none⟩ = some (.int .i64 (xs.getD k 0)) := (hbel.cell (p := ⟨b, off + k, none⟩) hb).trans (hcell k (by rw [HNE.out]; exact hlt))
        have c2 : wr.cell? ⟨b2, off2 + k, none⟩ = some (.int .i64 (ys.getD k 0)) := (hbel.cell (p := ⟨b2, off2 + k, none⟩) hb2).trans (hcell2 k hlt)
        clear hcell hcell2 hb hb2
        obtain ⟨x, hx⟩ : ∃ x, x = xs.getD k 0 := ⟨_, rfl⟩
        obtain ⟨y, hy⟩ : ∃ y, y = ys.getD k 0 := ⟨_, rfl⟩
        rw [← hx] at c1
        rw [← hy] at c2
        have HX := Lib.hid hx; clear hx
        have HY := Lib.hid hy; clear hy
        by_cases hxy : x = y
        · subst hxy
          go_wp2
          go_quiet (fail)
          go_wp2
          go_roundw
          case rel =>
            refine ⟨k + 1, by omega, by go_num, fun j hj => ?_, below_quiet hbel⟩
            by_cases hjk : j = k
            · rw [hjk, ← HX.out, ← HY.out]
            · exact hall.out j (by omega)
          case measure => simp [intOf]; omega
        · have hb1 : (x != y) = true := by simpa using hxy
          have hfin : decide (xs = ys) = false := by
            rw [decide_eq_false_iff_not]
            exact list_ne_at (k := k) (by rw [HNE.out]; exact hlt) (by rw [← HX.out, ← HY.out]; exact hxy)
          have HF := Lib.hid hfin; clear hfin hxy
          go_wp2
          go_quiet (fail)
          go_wp2
          go_ret
          rw [HF.out]
          exact ⟨rfl, below_quiet hbel⟩
      · have hfin : decide (xs = ys) = true := by
          rw [decide_eq_true_iff]
          exact list_eq_all HNE.out (fun j hj => hall.out j (by have := HNE.out; omega))
        have HF := Lib.hid hfin; clear hfin
        go_wp2
        go_ret
        rw [HF.out]
        exact ⟨rfl, hbel⟩
  · have hfin : decide (xs = ys) = false := by
      rw [decide_eq_false_iff_not]
      exact fun e => hne (by rw [e])
    have hb1 : ((xs.length : Int) != (ys.length : Int)) = true := by
      rw [bne_iff_ne]; omega
    have HF := Lib.hid hfin; clear hfin hne hc hc2
    go_enter Try.func14, Try.ntmps14
    go_wp2
    go_ret
    rw [HF.out]
    exact ⟨rfl, Below.refl _ _⟩


theorem eq_refl_any (w : World) (v1 v2 : Value) (xs : List Int) (h1 : Rd w v1 xs) (h2 : Rd w v2 xs) :
    Calls Try.prog 14 #[v1, v2] w (RetB w true) := by
  have := eq_any w v1 v2 xs xs h1 h2
  simpa using this

theorem take_snoc {xs : List Int} {k : Nat} (hk : k < xs.length) : xs.take (k + 1) = xs.take k ++ [xs.getD k 0] := by
  rw [List.take_succ_eq_append_getElem hk]; simp [List.getD_eq_getElem?_getD, List.getElem?_eq_getElem hk]

theorem set_fill {xs : List Int} {k : Nat} (hk : k < xs.length) :
    (xs.take k ++ List.replicate (xs.length - k) 0).set k (xs.getD k 0) = xs.take (k + 1) ++ List.replicate (xs.length - (k + 1)) 0 := by
  have hl : (xs.take k).length = k := by simp; omega
  rw [List.set_append, if_neg (by omega), hl, Nat.sub_self, take_snoc hk]
  obtain ⟨m, hm⟩ : ∃ m, xs.length - k = m + 1 := ⟨xs.length - k - 1, by omega⟩
  have hm' : xs.length - (k + 1) = m := by omega
  rw [hm, hm', List.replicate_succ]
  simp

set_option maxHeartbeats 400000 in
/-- 'toInt64S': a copy. -/
theorem to_any (w : World) (v : Value) (xs : List Int) (h : Rd w v xs) :
    Calls Try.prog 11 #[v] w (RetL w xs) := by
  obtain ⟨a, cap, rfl, hl, hc⟩ := h
  have HC := Lib.hid hc; clear hc
  go_enter Try.func11, Try.ntmps11
  go_wp2_with (at_make; refine wp_make64 rfl _ _ _ rfl Try.underlying22 .i64 .i64 _ _ xs.length rfl rfl rfl rfl hl ?_; intro w1 hs1 hb1 hz1)
  have HS := Lib.hid hs1; clear hs1
  go_loopw [4] (fun i wr => ∃ k : Nat, k ≤ xs.length ∧ i = .int .i64 k ∧ Sl wr w.heap.size (.slice (some ⟨w.heap.size, 0, none⟩) xs.length xs.length) (xs.take k ++ List.replicate (xs.length - k) 0) ∧ Below w.heap.size w wr) (fun i _ => xs.length - (intOf i).toNat)
  case atStart => exact ⟨0, Nat.zero_le _, rfl, by simpa using HS.out, hb1⟩
  case round =>
    obtain ⟨k, hk, rfl, hs, hbel⟩ := hrel
    by_cases hlt : k < xs.length
    · obtain ⟨b, off, rfl, hb, hcell⟩ := HC.out k hlt
      have c1 : wr.cell? ⟨b, off + k, none⟩ = some (.int .i64 (xs.getD k 0)) := (hbel.cell (p := ⟨b, off + k, none⟩) hb).trans (hcell k hlt)
      have c2 := sl_cell hs (j := k) (by simp; omega)
      have c3 := sl_frozen hs k
      have hset := sl_set hs k (xs.getD k 0)
      rw [set_fill hlt] at hset
      have HSET := Lib.hid hset; clear hset hs
      generalize (List.take k xs ++ List.replicate (xs.length - k) 0).getD k 0 = z at c2
      generalize xs.getD k 0 = x at c1 HSET
      clear hcell
      go_wp2
      go_roundw
      case rel => exact ⟨k + 1, by omega, by go_num, HSET.out.1, hbel.setCell (by simp) _⟩
      case measure => simp [intOf]; omega
    · obtain rfl : k = xs.length := by omega
      have HS2 := Lib.hid hs; clear hs
      go_wp2
      go_ret
      exact ⟨_, rfl, by simpa using HS2.out, hbel⟩

def upTo (k0 : Int) (n : Nat) : List Int := (List.range n).map (fun (i : Nat) => k0 + (i : Int))

theorem upTo_length (k0 : Int) (n : Nat) : (upTo k0 n).length = n := by simp [upTo]

theorem upTo_getD (k0 : Int) (n i : Nat) (h : i < n) : (upTo k0 n).getD i 0 = k0 + i := by
  simp [upTo, List.getD_eq_getElem?_getD, h]

theorem set_mark {xs : List Int} {k0 : Int} {k : Nat} (hk : k < xs.length) :
    (upTo k0 k ++ xs.drop k).set k (k0 + k) = upTo k0 (k + 1) ++ xs.drop (k + 1) := by
  have hl : (upTo k0 k).length = k := upTo_length _ _
  rw [List.set_append, if_neg (by omega), hl, Nat.sub_self]
  rw [List.drop_eq_getElem_cons hk, List.set_cons_zero]
  simp [upTo, List.range_succ]

set_option maxHeartbeats 400000 in
/-- 'markInt64S': the list is written over, from k0 on. -/
theorem mark_any (w : World) (base : Nat) (v : Value) (xs : List Int) (k0 : Int) (h : Sl w base v xs) (hk0 : 0 ≤ k0) (hk1 : k0 ≤ 1152921504606846976) :
    Calls Try.prog 16 #[v, .int .i64 k0] w (fun e w' => e = .returned (.int .i64 (k0 + xs.length)) ∧ Sl w' base v (upTo k0 xs.length) ∧ w.grownBy w' v.ownBlock) := by
  have hl := h.2
  obtain ⟨a, cap, rfl, hf⟩ := sl_form h
  have HF := Lib.hid hf; clear hf
  have H := Lib.hid h; clear h
  go_enter Try.func16, Try.ntmps16
  go_wp2
  go_loopw [1, 5] (fun c i wr => ∃ k : Nat, k ≤ xs.length ∧ i = .int .i64 k ∧ c = .int .i64 (k0 + k) ∧ Sl wr base (.slice a xs.length cap) (upTo k0 k ++ xs.drop k) ∧ w.grownBy wr (Value.slice a xs.length cap).ownBlock) (fun _ i _ => xs.length - (intOf i).toNat)
  case atStart => exact ⟨0, Nat.zero_le _, rfl, by simp, by simpa [upTo] using H.out, grown_refl _ _⟩
  case round =>
    obtain ⟨k, hk, rfl, rfl, hs, hbel⟩ := hrel
    by_cases hlt : k < xs.length
    · obtain ⟨g, rfl⟩ := HF.out k hlt
      have c2 := sl_cell hs (j := k) (by simp [upTo_length]; omega)
      have c3 := sl_frozen hs k
      have hset := sl_set hs k (k0 + k)
      rw [set_mark hlt] at hset
      have HSET := Lib.hid hset; clear hset hs
      generalize (upTo k0 k ++ List.drop k xs).getD k 0 = z at c2
      go_wp2
      go_roundw
      case rel => exact ⟨k + 1, by omega, by go_num, by go_num, HSET.out.1, grown_trans hbel (by simpa [Value.ownBlock] using HSET.out.2)⟩
      case measure => simp [intOf]; omega
    · obtain rfl : k = xs.length := by omega
      have HS2 := Lib.hid hs; clear hs
      go_wp2
      go_ret
      exact ⟨rfl, by simpa using HS2.out, hbel⟩

set_option maxHeartbeats 400000 in
/-- 'heldInt64S': the list holds k0, k0 + 1 and so on. -/
theorem held_any (w : World) (v : Value) (n : Nat) (k0 : Int) (h : Rd w v (upTo k0 n)) (hk0 : 0 ≤ k0) (hk1 : k0 ≤ 1152921504606846976) :
    Calls Try.prog 24 #[v, .int .i64 k0] w (RetI w (k0 + n)) := by
  obtain ⟨a, cap, rfl, hl, hc⟩ := h
  have hle := upTo_length k0 n
  rw [hle] at hl hc ⊢
  clear hle
  have HC := Lib.hid hc; clear hc
  go_enter Try.func24, Try.ntmps24
  go_wp2
  go_loopw [1, 5] (fun c i wr => ∃ k : Nat, k ≤ n ∧ i = .int .i64 k ∧ c = .int .i64 (k0 + k) ∧ Below w.heap.size w wr) (fun _ i _ => n - (intOf i).toNat)
  case atStart => exact ⟨0, Nat.zero_le _, rfl, by simp, Below.refl _ _⟩
  case round =>
    obtain ⟨k, hk, rfl, rfl, hbel⟩ := hrel
    by_cases hlt : k < n
    · obtain ⟨b, off, rfl, hb, hcell⟩ := HC.out k hlt
      have c1 : wr.cell? ⟨b, off + k, none⟩ = some (.int .i64 ((upTo k0 n).getD k 0)) := (hbel.cell (p := ⟨b, off + k, none⟩) hb).trans (hcell k hlt)
      rw [upTo_getD k0 n k hlt] at c1
      clear hcell
      have hb1 : (k0 + (k : Int) != k0 + (k : Int)) = false := by simp
      go_wp2
      go_roundw
      case rel => exact ⟨k + 1, by omega, by go_num, by go_num, hbel⟩
      case measure => simp [intOf]; omega
    · obtain rfl : k = n := by omega
      go_wp2
      go_ret
      exact ⟨rfl, hbel⟩

end Go.Proofs.Ytgkfampgofjkfaa

namespace Go.Proofs.Ytgkfampgofjkfaa
open Go.ChangeShapes Go.WideShapes Go.ChangeAt Go.RowKit

theorem own : ownKnob Try.prog.godebug = none := by kernel_rfl
theorem laidOut : laidOutB Try.prog = true := by kernel_rfl
theorem cells64 : Try.prog.cellsOf 2 = 1 := by kernel_rfl
theorem cellsS64 : Try.prog.cellsOf 22 = 1 := by kernel_rfl

/-- As 'Rd', of a slice that came in: of any length. -/
def In (w : World) (v : Value) (xs : List Int) : Prop :=
  ∃ (a : Option Addr) (cap : Nat), v = .slice a xs.length cap ∧ xs.length ≤ maxLen ∧ (∀ x ∈ xs, (Lit.int .i64 x).wf = true) ∧
    ∀ j, j < xs.length → ∃ b off, a = some ⟨b, off, none⟩ ∧ b < w.heap.size ∧ ∀ i, i < xs.length → w.cell? ⟨b, off + i, none⟩ = some (.int .i64 (xs.getD i 0))

theorem In.rd {w : World} {v : Value} {xs : List Int} (h : In w v xs) (hl : xs.length ≤ 1048576) : Rd w v xs := by
  obtain ⟨a, cap, hv, _, _, hc⟩ := h
  exact ⟨a, cap, hv, by omega, hc⟩

theorem take_getD {zs : List Int} {n i : Nat} (hi : i < n) : (zs.take n).getD i 0 = zs.getD i 0 := by
  simp [List.getD_eq_getElem?_getD, List.getElem?_take, hi]

set_option maxRecDepth 100000 in
theorem open_in {H : Type} {enc : TypeId × Value → H} {w : World} {v : Value} {d : DataW H} {ps : List MemPlace} {base : Nat}
    (hv : Value.okWide Try.prog w .any base 22 v) (h : DataW.Trod enc Try.prog w 0 (fun _ => true) true 22 v d ps) : ∃ xs, In w v xs := by
  obtain ⟨a0, len, cap, rfl⟩ := okWide_slice Try.underlying22 hv
  obtain ⟨fuel, hf⟩ := h
  rcases open_ints Try.underlying22 Try.underlying2 cells64 hf with ⟨hcs, _⟩ | ⟨a, len', cap', zs, hcs, _, hl, hm, hz, _, hcell, hwz⟩
  · simp [Value.cells] at hcs
    obtain ⟨rfl, rfl, rfl⟩ := hcs
    exact ⟨[], none, 0, rfl, Nat.zero_le _, by simp, fun j hj => absurd hj (Nat.not_lt_zero _)⟩
  · simp [Value.cells] at hcs
    obtain ⟨rfl, rfl, rfl⟩ := hcs
    simp only [if_true] at hz
    have htl : (zs.take len).length = len := by simp; omega
    refine ⟨zs.take len, some a, cap, by rw [htl], by omega, fun x hx => hwz x (List.mem_of_mem_take hx), fun j hj => ?_⟩
    rw [htl] at hj
    obtain ⟨b, off, spot⟩ := a
    have hspot : spot = none := by simpa [Addr.add] using World.cell?_spot (hcell 0 (by omega))
    subst hspot
    refine ⟨b, off, rfl, World.block_lt_of_cell? w _ (by simpa using hcell 0 (by omega)), fun i hi => ?_⟩
    rw [htl] at hi
    rw [take_getD hi]
    have hh := hcell i (by omega)
    rw [Addr.add_lit] at hh
    exact hh

theorem trodAll_below {H : Type} {enc : TypeId × Value → H} {P : Program} (hl : laidOutB P = true) {W W' : World} (hb : Below W.heap.size W W') :
    ∀ {ts : List TypeId} {vs : List Value} {ds : List (DataW H)} {ps : List MemPlace}, (∀ t ∈ ts, P.readableRec t = true ∧ t < P.types.size) →
      (∀ x ∈ ps, x.block < W.heap.size) → DataW.TrodAll enc P W 0 (fun _ => true) true ts vs ds ps → DataW.TrodAll enc P W' 0 (fun b => decide (b < W.heap.size)) true ts vs ds ps
  | [], _, _, _, _, _, h => by
    obtain ⟨rfl, rfl, rfl⟩ := trodAll_nil h
    exact trodAll_mk0
  | t :: ts, _, _, _, hr, hlt, h => by
    obtain ⟨v, vs1, d, ds1, a, b, rfl, rfl, rfl, h1, h2⟩ := trodAll_cons h
    have h3 := hr t (List.mem_cons_self ..)
    exact ⟨a, b, Below.trod hl h3.1 h3.2 h1 hb (fun x hx => hlt x (List.mem_append_left _ hx)),
      trodAll_below hl hb (fun t' ht' => hr t' (List.mem_cons_of_mem _ ht')) (fun x hx => hlt x (List.mem_append_right _ hx)) h2, rfl⟩

set_option maxRecDepth 100000 in
/-- What a law's row asks of the end: true came back, nothing that was there has turned. -/
theorem law_post {H : Type} {enc : TypeId × Value → H} {f : Func} {s : ChangeSpec} {W W' : World} {args : Array Value} {ds : List (DataW H)} {before : List MemPlace}
    (hvars : s.vars = []) (hrt : f.resultTypes.toList = [4]) (hW : DataW.Whole enc Try.prog f.params.toList s.vars false W args.toList ds [] before)
    (hts : (f.params.toList.all fun t => Try.prog.readableRec t && decide (t < Try.prog.types.size)) = true)
    (hres : (s.fn H ds).results = [.lit (.bool true)]) (hargs : (s.fn H ds).args = ds) (hvs : (s.fn H ds).vars = []) (hb : Below W.heap.size W W') :
    s.post enc Try.prog f false true false false W args (.bool true) W' := by
  have hlt := hW.lt
  have hW' := hW
  obtain ⟨p, q, hA, hV, rfl, _, _⟩ := hW
  rw [hvars] at hV
  have hq := (trodVars_none hV).2
  refine ⟨ds, [], p ++ q, [], p, [], hW', ?_, ?_, ?_, hb.frame _, fun h => by cases h⟩
  · rw [List.append_nil, hres]
    have hsz : f.resultTypes.size = 1 := by rw [← Array.length_toList, hrt]; rfl
    rw [hsz, hrt]
    exact trodAll_cons_mk (shut_bool Try.underlying4 _) trodAll_mk0
  · rw [List.append_nil, hargs]
    exact trodAll_below laidOut hb (fun t ht => by have := List.all_eq_true.1 hts t ht; simpa using this) (fun x hx => hlt x (List.mem_append_left _ hx)) hA
  · rw [List.append_nil, hvs, hvars]
    exact rfl

end Go.Proofs.Ytgkfampgofjkfaa

namespace Go.Proofs.Ytgkfampgofjkfaa
open Go.RowKit

/-- As 'wp_app64', and where the row lies behind it. -/
theorem wp_app64x {wr : World} {ops : Array Oper} {rest : List Oper} {o : Oper} {a : Act} {Q : Exit → Act → World → Prop}
    (hg : o.guard = none) (s x : Operand) (t : TypeId) (ho : o.op = .call { callee := .builtin .append, args := #[s, x], argTypes := #[t, t] }) (ht : Try.prog.underlying t = some (.slice 2))
    {base : Nat} {v : Value} {xs : List Int} (y : Int) (hs : Sl wr base v xs) (hv : a.eval s = v) (hx : a.eval x = .slice (some ⟨wr.heap.size, 0, none⟩) 1 1)
    (hn : xs.length + 1 ≤ 17592186044415) (hbase : base ≤ wr.heap.size)
    (hK : ∀ v' w', Sl w' base v' (xs ++ [y]) → wr.grownBy w' v.ownBlock → (∀ g, v'.ownBlock = some g → v.ownBlock = some g ∨ wr.heap.size ≤ g) → wpList Try.prog ops Q rest (a.put o.dst v') w') :
    wpList Try.prog ops Q (o :: rest) a (wr.alloc (.cells #[.int .i64 y] 2)) := by
  obtain ⟨i, hi, hz, hs1, hb⟩ := info_parts info64
  refine wpList_append_own_at (P := Try.prog) (wr.alloc (.cells #[.int .i64 y] 2)) hg s x t ho base 2 i (.int .i64 0) 1 8 ht hi hz hs1 hb rfl (by decide) v xs.length (xs.map (Value.int .i64)) hv (sl_alloc hs _).1 ⟨wr.heap.size, 0, none⟩ 1 1 [.int .i64 y] hx rfl (cell_one_new wr _ _) (by simp [Value.oneCell']) (by unfold maxLen; omega) (by omega) (by simp; omega) ?_
  intro v' w' hown hgrow _ hat
  refine hK v' w' ⟨by simpa using hown, by simpa using hn⟩ (grown_alloc hgrow) fun g hgv => ?_
  rcases hat with h | h
  · exact .inl (by rw [← h]; exact hgv)
  · refine .inr ?_
    rw [h] at hgv
    simp at hgv
    omega

theorem apart_grow {wr : World} {B : Nat} {u v v' : Value} {ys : List Int} (hu : Sl wr B u ys) (h : Apart u v) (hv : ∀ g, v'.ownBlock = some g → v.ownBlock = some g ∨ wr.heap.size ≤ g) : Apart u v' := fun g hg hv' => by
  rcases hv g hv' with h1 | h1
  · exact h g hg h1
  · have := (hu.1.lt g hg).2
    omega

end Go.Proofs.Ytgkfampgofjkfaa
