
/-
  The words of this seat's proofs: what a slice of int64 reads as in memory, and what a call leaves of what was there before.
-/
import Derived.Test.YtakifeiemcldlaaRows
import Derived.WalkKit
import Derived.ProofKit
import Derived.OpenShut
import Derived.Handy
import Derived.Lib.Hide
import Derived.Deep.QuietTactic
import Derived.BigQuiet
namespace Go.Proofs.Ytakifeiemcldlaa
open Go.RowKit

/-- v reads in w as the numbers xs. -/
def Rd (w : World) (v : Value) (xs : List Int) : Prop :=
  ∃ (a : Option Addr) (cap : Nat), v = .slice a xs.length cap ∧ xs.length ≤ 17592186044415 ∧
    ∀ j, j < xs.length → ∃ b off, a = some ⟨b, off, none⟩ ∧ b < w.heap.size ∧ ∀ i, i < xs.length → w.cell? ⟨b, off + i, none⟩ = some (.int .i64 (xs.getD i 0))

/-- v is a slice in a block of its own, from block number base on, that holds xs. -/
def Sl (w : World) (base : Nat) (v : Value) (xs : List Int) : Prop :=
  w.ownsRow base 2 1 v xs.length (xs.map (Value.int .i64)) ∧ xs.length ≤ 17592186044415

theorem rd_below {w w' : World} {v : Value} {xs : List Int} (hb : Below w.heap.size w w') (h : Rd w v xs) : Rd w' v xs := by
  obtain ⟨a, cap, hv, hl, hc⟩ := h
  refine ⟨a, cap, hv, hl, fun j hj => ?_⟩
  obtain ⟨b, off, ha, hbs, hcell⟩ := hc j hj
  exact ⟨b, off, ha, Nat.lt_of_lt_of_le hbs hb.size, fun i hi => (hb.cell (p := ⟨b, off + i, none⟩) hbs).trans (hcell i hi)⟩

theorem Sl.rd {w : World} {base : Nat} {v : Value} {xs : List Int} (h : Sl w base v xs) : Rd w v xs := by
  obtain ⟨⟨hlen, hor⟩, hl⟩ := h
  rcases hor with ⟨hv, hn⟩ | ⟨g, cap, cur, hv, hb, hg, hnc, hcm, hcs, ht⟩
  · exact ⟨none, 0, by rw [hv, hn], hl, fun j hj => by omega⟩
  · refine ⟨some ⟨g, 0, none⟩, cap, hv, hl, fun j hj => ⟨g, 0, rfl, (Array.getElem?_eq_some_iff.1 hg).1, fun i hi => ?_⟩⟩
    have h1 : (xs.map (Value.int .i64))[i]? = some (.int .i64 (xs.getD i 0)) := by
      simp [List.getD_eq_getElem?_getD, List.getElem?_eq_getElem hi]
    rw [← ht] at h1
    rw [cell_of_row w g (0 + i) cur _ (0, 0) hg]
    rw [List.getElem?_take] at h1
    split at h1
    · simpa using h1
    · cases h1

theorem sl_below {w w' : World} {base : Nat} {v : Value} {xs : List Int} (hb : Below w.heap.size w w') (h : Sl w base v xs) : Sl w' base v xs := by
  obtain ⟨⟨hlen, hor⟩, hl⟩ := h
  refine ⟨⟨hlen, ?_⟩, hl⟩
  rcases hor with h | ⟨g, cap, cur, hv, hbb, hg, rest⟩
  · exact .inl h
  · exact .inr ⟨g, cap, cur, hv, hbb, by rw [hb.block g (Array.getElem?_eq_some_iff.1 hg).1]; exact hg, rest⟩

theorem Sl.mono {w : World} {base base' : Nat} {v : Value} {xs : List Int} (h : Sl w base v xs) (hb : base' ≤ base) : Sl w base' v xs := by
  obtain ⟨⟨hlen, hor⟩, hl⟩ := h
  refine ⟨⟨hlen, ?_⟩, hl⟩
  rcases hor with h | ⟨g, cap, cur, hv, hbb, rest⟩
  · exact .inl h
  · exact .inr ⟨g, cap, cur, hv, Nat.le_trans hb hbb, rest⟩

theorem Sl.nil (w : World) (base : Nat) : Sl w base (.slice none 0 0) [] := ⟨World.ownsRow_nil w base _ 1, by simp⟩

theorem below_quiet {B : Nat} {a w : World} {n : Nat} (h : Below B a w) : Below B a (w.drewN n) := ⟨h.os, h.tape, h.output, h.size, h.block⟩

def RetB (W : World) (b : Bool) (e : Ending) (w' : World) : Prop := e = .returned (.bool b) ∧ Below W.heap.size W w'
def RetI (W : World) (n : Int) (e : Ending) (w' : World) : Prop := e = .returned (.int .i64 n) ∧ Below W.heap.size W w'
theorem sl_quiet {w : World} {base : Nat} {v : Value} {xs : List Int} {n : Nat} (h : Sl w base v xs) : Sl (w.drewN n) base v xs := h

def RetII (W : World) (n c : Int) (e : Ending) (w' : World) : Prop := e = .returned (.tuple #[.int .i64 n, .int .i64 c]) ∧ Below W.heap.size W w'
def RetL (W : World) (xs : List Int) (e : Ending) (w' : World) : Prop := ∃ v, e = .returned v ∧ Sl w' W.heap.size v xs ∧ Below W.heap.size W w'
def RetLI (W : World) (xs : List Int) (c : Int) (e : Ending) (w' : World) : Prop := ∃ v, e = .returned (.tuple #[v, .int .i64 c]) ∧ Sl w' W.heap.size v xs ∧ Below W.heap.size W w'

/-- Two values do not lie in one block. -/
def Apart (v u : Value) : Prop := ∀ g, v.ownBlock = some g → u.ownBlock ≠ some g

theorem Apart.symm {v u : Value} (h : Apart v u) : Apart u v := fun g hg hv => h g hv hg

theorem apart_ne {v u : Value} (h : Apart v u) : v.ownBlock = none ∨ v.ownBlock ≠ u.ownBlock := by
  cases hv : v.ownBlock with
  | none => exact .inl rfl
  | some g => exact .inr fun e => h g hv e.symm

/-- What was there and what came behind it. -/
theorem apart_of {w w' : World} {B : Nat} {v u : Value} {xs ys : List Int} (h : Sl w B v xs) (h' : Sl w' w.heap.size u ys) : Apart v u := fun g hg hu => by
  have a := (h.1.lt g hg).2
  have b := (h'.1.lt g hu).1
  omega

theorem info64 : (Try.prog.info? 2).map (fun i => (i.zero, i.size, i.bytes)) = some (some (.int .i64 0), 1, 8) := by kernel_rfl

theorem sl_lt {w : World} {base : Nat} {g n cap : Nat} {xs : List Int} (h : Sl w base (.slice (some ⟨g, 0, none⟩) n cap) xs) : base ≤ g ∧ g < w.heap.size :=
  h.1.lt g rfl

theorem sl_cell {w : World} {base : Nat} {g n cap : Nat} {xs : List Int} (h : Sl w base (.slice (some ⟨g, 0, none⟩) n cap) xs) {j : Nat} (hj : j < xs.length) :
    w.cell? ⟨g, j, none⟩ = some (.int .i64 (xs.getD j 0)) := by
  obtain ⟨a, cap', hv, _, hc⟩ := h.rd
  obtain ⟨b, off, ha, _, hcell⟩ := hc j hj
  subst ha
  simp only [Value.slice.injEq, Option.some.injEq, Addr.mk.injEq] at hv
  obtain ⟨⟨rfl, rfl, _⟩, _⟩ := hv
  simpa using hcell j hj

theorem sl_len {w : World} {base : Nat} {a : Option Addr} {n cap : Nat} {xs : List Int} (h : Sl w base (.slice a n cap) xs) : n = xs.length := by
  obtain ⟨a', cap', hv, _⟩ := h.rd
  simp only [Value.slice.injEq] at hv
  exact hv.2.1

theorem sl_frozen {w : World} {base : Nat} {g n cap : Nat} {xs : List Int} (h : Sl w base (.slice (some ⟨g, 0, none⟩) n cap) xs) (j : Nat) : w.frozen? ⟨g, j, none⟩ = false := by
  have := sl_len h
  subst this
  exact h.1.frozenAt j

theorem sl_set {w : World} {base : Nat} {g n cap : Nat} {xs : List Int} (h : Sl w base (.slice (some ⟨g, 0, none⟩) n cap) xs) (j : Nat) (x : Int) :
    Sl (w.setCell ⟨g, j, none⟩ (.int .i64 x)) base (.slice (some ⟨g, 0, none⟩) n cap) (xs.set j x) ∧ w.grownBy (w.setCell ⟨g, j, none⟩ (.int .i64 x)) (some g) := by
  have := sl_len h
  subst this
  have hs := h.1.stored j (.int .i64 x)
  refine ⟨⟨?_, by simpa using h.2⟩, hs.2⟩
  have := hs.1
  rw [← List.map_set] at this
  simpa using this

/-- A row that another block's write does not touch. -/
theorem sl_kept {w w' : World} {base : Nat} {v : Value} {xs : List Int} {row : Option Nat} (h : Sl w base v xs) (hg : w.grownBy w' row) (hne : v.ownBlock = none ∨ v.ownBlock ≠ row) : Sl w' base v xs :=
  ⟨h.1.kept hg hne, h.2⟩

theorem rd_alloc {w : World} {v : Value} {xs : List Int} (h : Rd w v xs) (o : Obj) : Rd (w.alloc o) v xs :=
  rd_below ((Below.refl _ _).alloc (Nat.le_refl _) o) h

theorem grown_refl (w : World) (row : Option Nat) : w.grownBy w row := ⟨rfl, rfl, rfl, Nat.le_refl _, fun _ _ _ => rfl⟩

theorem grown_trans {a b c : World} {row : Option Nat} (h : a.grownBy b row) (k : b.grownBy c row) : a.grownBy c row :=
  ⟨k.os.trans h.os, k.tape.trans h.tape, k.output.trans h.output, Nat.le_trans h.size k.size, fun i hi hr => (k.block i (Nat.lt_of_lt_of_le hi h.size) hr).trans (h.block i hi hr)⟩

theorem grown_quiet {a b : World} {row : Option Nat} (h : a.grownBy b row) (n : Nat) : a.grownBy (b.drewN n) row := ⟨h.os, h.tape, h.output, h.size, h.block⟩

theorem sl_form {w : World} {base : Nat} {v : Value} {xs : List Int} (h : Sl w base v xs) :
    ∃ (a : Option Addr) (cap : Nat), v = .slice a xs.length cap ∧ ∀ j, j < xs.length → ∃ g, a = some ⟨g, 0, none⟩ := by
  obtain ⟨⟨hlen, hor⟩, hl⟩ := h
  rcases hor with ⟨hv, hn⟩ | ⟨g, cap, cur, hv, hb, hg, hnc, hcm, hcs, ht⟩
  · exact ⟨none, 0, by rw [hv, hn], fun j hj => by omega⟩
  · exact ⟨some ⟨g, 0, none⟩, cap, hv, fun j hj => ⟨g, rfl⟩⟩

theorem sl_alloc {w : World} {base : Nat} {v : Value} {xs : List Int} (h : Sl w base v xs) (o : Obj) : Sl (w.alloc o) base v xs :=
  sl_below ((Below.refl _ _).alloc (Nat.le_refl _) o) h

theorem madeOne (n : Nat) : (madeCells #[Value.int .i64 0] n).toList = (List.replicate n (0 : Int)).map (Value.int .i64) := by
  rw [toList_madeCells_one]; simp

/-- 'make([]int64, n)'. -/
theorem wp_make64 {w : World} {ops : Array Oper} {rest : List Oper} {o : Oper} {a : Act} {Q : Exit → Act → World → Prop}
    (hg : o.guard = none) (l c : Operand) (t : TypeId) (hop : o.op = Op.makeSlice t l c) (ht : Try.prog.underlying t = some (.slice 2))
    (kl kc : IntKind) (L C : Int) (n : Nat) (hl : a.eval l = .int kl L) (hc : a.eval c = .int kc C) (hL : L = (n : Int)) (hC : C = (n : Int)) (hn : n ≤ 17592186044415)
    (hK : ∀ w', Sl w' w.heap.size (.slice (some ⟨w.heap.size, 0, none⟩) n n) (List.replicate n 0) → Below w.heap.size w w' → w.heap.size < w'.heap.size → wpList Try.prog ops Q rest (a.put o.dst (.slice (some ⟨w.heap.size, 0, none⟩) n n)) w') :
    wpList Try.prog ops Q (o :: rest) a w := by
  obtain ⟨i, hi, hz, hs, hb⟩ := info_parts info64
  refine wpList_make_full w hg l c t hop w.heap.size 2 i (.int .i64 0) 1 ht hi hz hs kl kc L C n hl hc hL hC (by rw [hb]; omega) (by unfold maxLen; omega) (Nat.le_refl _) ?_
  intro w' hown hgrow
  have hs' : Sl w' w.heap.size (.slice (some ⟨w.heap.size, 0, none⟩) n n) (List.replicate n 0) := by
    refine ⟨?_, by simpa using hn⟩
    simp only [Value.cells, Nat.mul_one] at hown
    rw [madeOne] at hown
    simpa using hown
  exact hK w' hs' ((Below.refl _ _).grown hgrow (Nat.le_refl _) (by simp)) (sl_lt hs').2

/-- 'append(s, x)', s a slice of the call's own. -/
theorem wp_append64 {w : World} {ops : Array Oper} {rest : List Oper} {o : Oper} {a : Act} {Q : Exit → Act → World → Prop}
    (hg : o.guard = none) (s x : Operand) (t : TypeId) (ho : o.op = .call { callee := .builtin .append, args := #[s, x], argTypes := #[t, t] }) (ht : Try.prog.underlying t = some (.slice 2))
    (base : Nat) (v : Value) (xs : List Int) (hv : a.eval s = v) (hs : Sl w base v xs) (ad : Addr) (c : Nat) (y : Int) (hx : a.eval x = .slice (some ad) 1 c) (hy : w.cell? ad = some (.int .i64 y))
    (hn : xs.length + 1 ≤ 17592186044415) (hbase : base ≤ w.heap.size)
    (hK : ∀ v' w', Sl w' base v' (xs ++ [y]) → w.grownBy w' v.ownBlock → wpList Try.prog ops Q rest (a.put o.dst v') w') :
    wpList Try.prog ops Q (o :: rest) a w := by
  obtain ⟨i, hi, hz, hs1, hb⟩ := info_parts info64
  refine wpList_append_own w hg s x t ho base 2 i (.int .i64 0) 1 8 ht hi hz hs1 hb rfl (by decide) v xs.length (xs.map (Value.int .i64)) hv hs.1 ad 1 c [.int .i64 y] hx rfl ?_ (by simp [Value.oneCell']) (by unfold maxLen; omega) (by omega) hbase ?_
  · intro j u hu
    cases j with
    | zero => simp at hu; subst hu; simpa [Addr.add] using hy
    | succ j => simp at hu
  · intro v' w' hown hgrow _
    refine hK v' w' ⟨?_, by simpa using hn⟩ hgrow
    simpa using hown

def RetLLI (W : World) (xs ys : List Int) (c : Int) (e : Ending) (w' : World) : Prop :=
  ∃ v u, e = .returned (.tuple #[v, u, .int .i64 c]) ∧ Sl w' W.heap.size v xs ∧ Sl w' W.heap.size u ys ∧ Apart v u ∧ Below W.heap.size W w'

theorem sl_empty (w : World) : Sl (w.alloc (.cells #[] 2)) w.heap.size (.slice (some ⟨w.heap.size, 0, none⟩) 0 0) [] :=
  ⟨World.ownsRow_made w #[] 0 (Nat.le_refl _) (Nat.zero_le _) rfl, by simp⟩

theorem grown_alloc {w w' : World} {o : Obj} {row : Option Nat} (h : (w.alloc o).grownBy w' row) : w.grownBy w' row :=
  grown_trans (World.grownBy_alloc w o row) h

/-- 'append(s, y)', as the translation has it: y stands in a new block of one cell. -/
theorem wp_app64 {wr : World} {ops : Array Oper} {rest : List Oper} {o : Oper} {a : Act} {Q : Exit → Act → World → Prop}
    (hg : o.guard = none) (s x : Operand) (t : TypeId) (ho : o.op = .call { callee := .builtin .append, args := #[s, x], argTypes := #[t, t] }) (ht : Try.prog.underlying t = some (.slice 2))
    {base : Nat} {v : Value} {xs : List Int} (y : Int) (hs : Sl wr base v xs) (hv : a.eval s = v) (hx : a.eval x = .slice (some ⟨wr.heap.size, 0, none⟩) 1 1)
    (hn : xs.length + 1 ≤ 17592186044415) (hbase : base ≤ wr.heap.size)
    (hK : ∀ v' w', Sl w' base v' (xs ++ [y]) → wr.grownBy w' v.ownBlock → wpList Try.prog ops Q rest (a.put o.dst v') w') :
    wpList Try.prog ops Q (o :: rest) a (wr.alloc (.cells #[.int .i64 y] 2)) := by
  refine wp_append64 hg s x t ho ht base v xs hv (sl_alloc hs _) ⟨wr.heap.size, 0, none⟩ 1 y hx ?_ hn (by simp; omega) fun v' w' h1 h2 => hK v' w' h1 (grown_alloc h2)
  rw [World.cell?_alloc_at _ _ _ _ rfl]; rfl

/-- Below, behind a step that writes a row of the call's own. -/
theorem below_grown {W w w' : World} {v : Value} {xs : List Int} {B : Nat} (hb : Below W.heap.size W w) (hs : Sl w B v xs) (hB : W.heap.size ≤ B) (hg : w.grownBy w' v.ownBlock) : Below W.heap.size W w' :=
  hb.grown hg hb.size fun k hk => Nat.le_trans hB (hs.1.lt k hk).1

end Go.Proofs.Ytakifeiemcldlaa
