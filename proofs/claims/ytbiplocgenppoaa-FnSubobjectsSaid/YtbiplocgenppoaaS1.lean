import Derived.Test.YtbiplocgenppoaaRows
import Derived.WalkKit
import Derived.ProofKit
import Derived.OpenShut
import Derived.Handy
import Derived.Lib.Hide
import Derived.Deep.QuietTactic
import Derived.BigQuiet
import Derived.Carry
import Derived.SizedLaws
import Derived.ChangeSlices
import Derived.Deep.Matrix
import Derived.Maps.AppendAt
import Derived.Maps.OwnSet
import Derived.StillTailTactics
import Derived.Deep.RegionHeld3
import Derived.Deep.AppendLies
import Derived.Lib.SmallJoins
set_option maxHeartbeats 400000
set_option maxRecDepth 100000
set_option linter.unusedSimpArgs false
set_option linter.unusedVariables false
set_option linter.unusedSectionVars false
namespace Go.Proofs.Ytbiplocgenppoaa
open _root_.Go.Proofs.Try
open Go.RowKit
def Rd (w : World) (v : Value) (xs : List Int) : Prop :=
  ∃ (a : Option Addr) (cap : Nat), v = .slice a xs.length cap ∧ xs.length ≤ 17592186044415 ∧
    ∀ j, j < xs.length → ∃ b off, a = some ⟨b, off, none⟩ ∧ b < w.heap.size ∧ ∀ i, i < xs.length → w.cell? ⟨b, off + i, none⟩ = some (.int .i64 (xs.getD i 0))
def Sl (w : World) (base : Nat) (v : Value) (xs : List Int) : Prop :=
  w.ownsRow base 2 1 v xs.length (xs.map (Value.int .i64)) ∧ xs.length ≤ 17592186044415
theorem rd_below {w w' : World} {v : Value} {xs : List Int} (hb : Below w.heap.size w w') (h : Rd w v xs) : Rd w' v xs := by
  obtain ⟨a, cap, hv, hl, hc⟩ := h
  refine ⟨a, cap, hv, hl, fun j hj => ?_⟩
  obtain ⟨b, off, ha, hbs, hcell⟩ := hc j hj
  exact ⟨b, off, ha, Nat.lt_of_lt_of_le hbs hb.size, fun i hi => (hb.cell (p := ⟨b, off + i, none⟩) hbs).trans (hcell i hi)⟩
theorem Sl.rd {w : World} {base : Nat} {v : Value} {xs : List Int} (h : Sl w base v xs) : Rd w v xs := by
  obtain ⟨⟨hlen, hor⟩, hl⟩ := h
  rcases hor with ⟨hv, hn⟩ | ⟨g, cap, cur, hv, hb, hg, hnc, hcm, hcs, ht⟩
  · exact ⟨none, 0, by rw [hv, hn], hl, fun j hj => by omega⟩
  refine ⟨some ⟨g, 0, none⟩, cap, hv, hl, fun j hj => ⟨g, 0, rfl, (Array.getElem?_eq_some_iff.1 hg).1, fun i hi => ?_⟩⟩
  have h1 : (xs.map (Value.int .i64))[i]? = some (.int .i64 (xs.getD i 0)) := by
    simp [List.getD_eq_getElem?_getD, List.getElem?_eq_getElem hi]
  rw [← ht] at h1
  rw [cell_of_row w g (0 + i) cur _ (0, 0) hg]
  rw [List.getElem?_take] at h1
  split at h1
  · simpa using h1
  cases h1
theorem sl_below {w w' : World} {base : Nat} {v : Value} {xs : List Int} (hb : Below w.heap.size w w') (h : Sl w base v xs) : Sl w' base v xs := by
  obtain ⟨⟨hlen, hor⟩, hl⟩ := h
  refine ⟨⟨hlen, ?_⟩, hl⟩
  rcases hor with h | ⟨g, cap, cur, hv, hbb, hg, rest⟩
  · exact .inl h
  exact .inr ⟨g, cap, cur, hv, hbb, by rw [hb.block g (Array.getElem?_eq_some_iff.1 hg).1]; exact hg, rest⟩
theorem Sl.mono {w : World} {base base' : Nat} {v : Value} {xs : List Int} (h : Sl w base v xs) (hb : base' ≤ base) : Sl w base' v xs := by
  obtain ⟨⟨hlen, hor⟩, hl⟩ := h
  refine ⟨⟨hlen, ?_⟩, hl⟩
  rcases hor with h | ⟨g, cap, cur, hv, hbb, rest⟩
  · exact .inl h
  exact .inr ⟨g, cap, cur, hv, Nat.le_trans hb hbb, rest⟩
theorem Sl.nil (w : World) (base : Nat) : Sl w base (.slice none 0 0) [] := ⟨World.ownsRow_nil w base _ 1, by simp⟩
theorem below_quiet {B : Nat} {a w : World} {n : Nat} (h : Below B a w) : Below B a (w.drewN n) := ⟨h.os, h.tape, h.output, h.size, h.block⟩
def RetB (W : World) (b : Bool) (e : Ending) (w' : World) : Prop := e = .returned (.bool b) ∧ Below W.heap.size W w'
def RetI (W : World) (n : Int) (e : Ending) (w' : World) : Prop := e = .returned (.int .i64 n) ∧ Below W.heap.size W w'
def RetL (W : World) (xs : List Int) (e : Ending) (w' : World) : Prop := ∃ v, e = .returned v ∧ Sl w' W.heap.size v xs ∧ Below W.heap.size W w'
def RetLI (W : World) (xs : List Int) (c : Int) (e : Ending) (w' : World) : Prop := ∃ v, e = .returned (.tuple #[v, .int .i64 c]) ∧ Sl w' W.heap.size v xs ∧ Below W.heap.size W w'
def Apart (v u : Value) : Prop := ∀ g, v.ownBlock = some g → u.ownBlock ≠ some g
theorem apart_ne {v u : Value} (h : Apart v u) : v.ownBlock = none ∨ v.ownBlock ≠ u.ownBlock := by
  cases hv : v.ownBlock with
  | none => exact .inl rfl
  | some g => exact .inr fun e => h g hv e.symm
theorem info64 : (Try.prog.info? 2).map (fun i => (i.zero, i.size, i.bytes)) = some (some (.int .i64 0), 1, 8) := by kernel_rfl
theorem sl_cell {w : World} {base : Nat} {g n cap : Nat} {xs : List Int} (h : Sl w base (.slice (some ⟨g, 0, none⟩) n cap) xs) {j : Nat} (hj : j < xs.length) :
    w.cell? ⟨g, j, none⟩ = some (.int .i64 (xs.getD j 0)) := by
  obtain ⟨a, cap', hv, _, hc⟩ := h.rd
  obtain ⟨b, off, ha, _, hcell⟩ := hc j hj
  subst ha
  simp only [Value.slice.injEq, Option.some.injEq, Addr.mk.injEq] at hv
  obtain ⟨⟨rfl, rfl, _⟩, _⟩ := hv
  simpa using hcell j hj
theorem sl_len {w : World} {base : Nat} {a : Option Addr} {n cap : Nat} {xs : List Int} (h : Sl w base (.slice a n cap) xs) : n = xs.length := by
  obtain ⟨a', cap', hv, _⟩ := h.rd
  simp only [Value.slice.injEq] at hv
  exact hv.2.1
theorem sl_frozen {w : World} {base : Nat} {g n cap : Nat} {xs : List Int} (h : Sl w base (.slice (some ⟨g, 0, none⟩) n cap) xs) (j : Nat) : w.frozen? ⟨g, j, none⟩ = false := by
  have := sl_len h
  subst this
  exact h.1.frozenAt j
theorem sl_set {w : World} {base : Nat} {g n cap : Nat} {xs : List Int} (h : Sl w base (.slice (some ⟨g, 0, none⟩) n cap) xs) (j : Nat) (x : Int) :
    Sl (w.setCell ⟨g, j, none⟩ (.int .i64 x)) base (.slice (some ⟨g, 0, none⟩) n cap) (xs.set j x) ∧ w.grownBy (w.setCell ⟨g, j, none⟩ (.int .i64 x)) (some g) := by
  have := sl_len h
  subst this
  have hs := h.1.stored j (.int .i64 x)
  refine ⟨⟨?_, by simpa using h.2⟩, hs.2⟩
  have := hs.1
  rw [← List.map_set] at this
  simpa using this
theorem sl_kept {w w' : World} {base : Nat} {v : Value} {xs : List Int} {row : Option Nat} (h : Sl w base v xs) (hg : w.grownBy w' row) (hne : v.ownBlock = none ∨ v.ownBlock ≠ row) : Sl w' base v xs :=
  ⟨h.1.kept hg hne, h.2⟩
theorem grown_refl (w : World) (row : Option Nat) : w.grownBy w row := ⟨rfl, rfl, rfl, Nat.le_refl _, fun _ _ _ => rfl⟩
theorem grown_trans {a b c : World} {row : Option Nat} (h : a.grownBy b row) (k : b.grownBy c row) : a.grownBy c row :=
  ⟨k.os.trans h.os, k.tape.trans h.tape, k.output.trans h.output, Nat.le_trans h.size k.size, fun i hi hr => (k.block i (Nat.lt_of_lt_of_le hi h.size) hr).trans (h.block i hi hr)⟩
theorem grown_quiet {a b : World} {row : Option Nat} (h : a.grownBy b row) (n : Nat) : a.grownBy (b.drewN n) row := ⟨h.os, h.tape, h.output, h.size, h.block⟩
theorem sl_form {w : World} {base : Nat} {v : Value} {xs : List Int} (h : Sl w base v xs) :
    ∃ (a : Option Addr) (cap : Nat), v = .slice a xs.length cap ∧ ∀ j, j < xs.length → ∃ g, a = some ⟨g, 0, none⟩ := by
  obtain ⟨⟨hlen, hor⟩, hl⟩ := h
  rcases hor with ⟨hv, hn⟩ | ⟨g, cap, cur, hv, hb, hg, hnc, hcm, hcs, ht⟩
  · exact ⟨none, 0, by rw [hv, hn], fun j hj => by omega⟩
  exact ⟨some ⟨g, 0, none⟩, cap, hv, fun j hj => ⟨g, rfl⟩⟩
theorem sl_alloc {w : World} {base : Nat} {v : Value} {xs : List Int} (h : Sl w base v xs) (o : Obj) : Sl (w.alloc o) base v xs :=
  sl_below ((Below.refl _ _).alloc (Nat.le_refl _) o) h
theorem madeOne (n : Nat) : (madeCells #[Value.int .i64 0] n).toList = (List.replicate n (0 : Int)).map (Value.int .i64) := by
  rw [toList_madeCells_one]; simp
end Go.Proofs.Ytbiplocgenppoaa
namespace Go.Proofs.Ytbiplocgenppoaa
open _root_.Go.Proofs.Try
open Go.RowKit
theorem list_ne_at {xs ys : List Int} {k : Nat} (h1 : k < xs.length) (hn : xs.getD k 0 ≠ ys.getD k 0) : xs ≠ ys := by
  intro e; subst e; exact hn rfl
theorem list_eq_all {xs ys : List Int} (hl : xs.length = ys.length) (h : ∀ j, j < xs.length → xs.getD j 0 = ys.getD j 0) : xs = ys := by
  apply List.ext_getElem hl
  intro i h1 h2
  have := h i h1
  simpa [List.getD_eq_getElem?_getD, List.getElem?_eq_getElem h1, List.getElem?_eq_getElem h2] using this
end Go.Proofs.Ytbiplocgenppoaa
namespace Go.Proofs.Ytbiplocgenppoaa
open _root_.Go.Proofs.Try
open Go.ChangeShapes Go.WideShapes Go.ChangeAt Go.RowKit
theorem own : ownKnob Try.prog.godebug = none := by kernel_rfl
theorem laidOut : laidOutB Try.prog = true := by kernel_rfl
def In (w : World) (v : Value) (xs : List Int) : Prop :=
  ∃ (a : Option Addr) (cap : Nat), v = .slice a xs.length cap ∧ xs.length ≤ maxLen ∧ (∀ x ∈ xs, (Lit.int .i64 x).wf = true) ∧
    ∀ j, j < xs.length → ∃ b off, a = some ⟨b, off, none⟩ ∧ b < w.heap.size ∧ ∀ i, i < xs.length → w.cell? ⟨b, off + i, none⟩ = some (.int .i64 (xs.getD i 0))
theorem trodAll_below {H : Type} {enc : TypeId × Value → H} {P : Program} (hl : laidOutB P = true) {W W' : World} (hb : Below W.heap.size W W') :
    ∀ {ts : List TypeId} {vs : List Value} {ds : List (DataW H)} {ps : List MemPlace}, (∀ t ∈ ts, P.readableRec t = true ∧ t < P.types.size) →
      (∀ x ∈ ps, x.block < W.heap.size) → DataW.TrodAll enc P W 0 (fun _ => true) true ts vs ds ps → DataW.TrodAll enc P W' 0 (fun b => decide (b < W.heap.size)) true ts vs ds ps
  | [], _, _, _, _, _, h => by
    obtain ⟨rfl, rfl, rfl⟩ := trodAll_nil h
    exact trodAll_mk0
  | t :: ts, _, _, _, hr, hlt, h => by
    obtain ⟨v, vs1, d, ds1, a, b, rfl, rfl, rfl, h1, h2⟩ := trodAll_cons h
    have h3 := hr t (List.mem_cons_self ..)
    exact ⟨a, b, Below.trod hl h3.1 h3.2 h1 hb (fun x hx => hlt x (List.mem_append_left _ hx)),
      trodAll_below hl hb (fun t' ht' => hr t' (List.mem_cons_of_mem _ ht')) (fun x hx => hlt x (List.mem_append_right _ hx)) h2, rfl⟩
theorem law_post {H : Type} {enc : TypeId × Value → H} {f : Func} {s : ChangeSpec} {W W' : World} {args : Array Value} {ds : List (DataW H)} {before : List MemPlace}
    (hvars : s.vars = []) (hrt : f.resultTypes.toList = [4]) (hW : DataW.Whole enc Try.prog f.params.toList s.vars false W args.toList ds [] before)
    (hts : (f.params.toList.all fun t => Try.prog.readableRec t && decide (t < Try.prog.types.size)) = true)
    (hres : (s.fn H ds).results = [.lit (.bool true)]) (hargs : (s.fn H ds).args = ds) (hvs : (s.fn H ds).vars = []) (hb : Below W.heap.size W W') :
    s.post enc Try.prog f false true false false W args (.bool true) W' := by
  have hlt := hW.lt
  have hW' := hW
  obtain ⟨p, q, hA, hV, rfl, _, _⟩ := hW
  rw [hvars] at hV
  have hq := (trodVars_none hV).2
  refine ⟨ds, [], p ++ q, [], p, [], hW', ?_, ?_, ?_, hb.frame _, fun h => by cases h⟩
  · rw [List.append_nil, hres]
    have hsz : f.resultTypes.size = 1 := by rw [← Array.length_toList, hrt]; rfl
    rw [hsz, hrt]
    exact trodAll_cons_mk (shut_bool underlying4 _) trodAll_mk0
  · rw [List.append_nil, hargs]
    exact trodAll_below laidOut hb (fun t ht => by have := List.all_eq_true.1 hts t ht; simpa using this) (fun x hx => hlt x (List.mem_append_left _ hx)) hA
  rw [List.append_nil, hvs, hvars]
  exact rfl
end Go.Proofs.Ytbiplocgenppoaa
namespace Go.Proofs.Ytbiplocgenppoaa
open _root_.Go.Proofs.Try
open Go.RowKit
end Go.Proofs.Ytbiplocgenppoaa
namespace Go.Proofs.Ytbiplocgenppoaa
open _root_.Go.Proofs.Try
open Go.RowKit
def SizeP (n : Int) : Prop := 0 ≤ n ∧ n ≤ 256
instance (n : Int) : Decidable (SizeP n) := inferInstanceAs (Decidable (_ ∧ _))
def AllP (n : Int) (xs : List Int) : Prop := ∀ x ∈ xs, 0 ≤ x ∧ x < n
instance (n : Int) (xs : List Int) : Decidable (AllP n xs) := inferInstanceAs (Decidable (∀ x ∈ xs, _))
def MapP (n : Int) (xs : List Int) : Prop := SizeP n ∧ xs.length ≤ 256 ∧ AllP n xs
instance (n : Int) (xs : List Int) : Decidable (MapP n xs) := inferInstanceAs (Decidable (_ ∧ _))
theorem mem_getD {xs : List Int} {k : Nat} (hk : k < xs.length) : xs.getD k 0 ∈ xs := by
  rw [List.getD_eq_getElem?_getD, List.getElem?_eq_getElem hk]; exact List.getElem_mem hk
theorem allP_of {n : Int} {xs : List Int} (h : ∀ j, j < xs.length → 0 ≤ xs.getD j 0 ∧ xs.getD j 0 < n) : AllP n xs := by
  intro x hx
  obtain ⟨j, hj, rfl⟩ := List.getElem_of_mem hx
  have := h j hj
  simpa [List.getD_eq_getElem?_getD, List.getElem?_eq_getElem hj] using this
def Same (W : World) (v : Value) (e : Ending) (w' : World) : Prop := e = .returned v ∧ W = w'
theorem bT {p : Prop} [Decidable p] {b : Bool} (hb : decide p = b) (h : p) : b = true := by rw [← hb]; exact decide_eq_true h
theorem bF {p : Prop} [Decidable p] {b : Bool} (hb : decide p = b) (h : ¬ p) : b = false := by rw [← hb]; exact decide_eq_false h
theorem specIn_any (w : World) (n lo hi : Int) (b : Bool) (hb : decide (lo ≤ n ∧ n ≤ hi) = b) :
    Calls Try.prog 87 #[.int .i64 n, .int .i64 lo, .int .i64 hi] w (Same w (.bool b)) := by
  by_cases h1 : lo ≤ n
  · by_cases h2 : n ≤ hi
    · obtain rfl := bT hb ⟨h1, h2⟩
      clear hb
      go_enter func87, Try.ntmps87
      go_wp2
      go_ret
      exact ⟨rfl, rfl⟩
    obtain rfl := bF hb (by omega)
    clear hb
    go_enter func87, Try.ntmps87
    go_wp2
    go_ret
    exact ⟨rfl, rfl⟩
  obtain rfl := bF hb (by omega)
  clear hb
  go_enter func87, Try.ntmps87
  go_wp2
  go_ret
  exact ⟨rfl, rfl⟩
theorem specMap_any (w : World) (n : Int) (v : Value) (xs : List Int) (b : Bool) (h : Rd w v xs) (hb : decide (AllP n xs) = b) :
    Calls Try.prog 89 #[.int .i64 n, v] w (RetB w b) := by
  obtain ⟨a, cap, rfl, hl, hc⟩ := h
  have HC := Lib.hid hc; clear hc
  have HB := Lib.hid hb; clear hb
  go_enter func89, Try.ntmps89
  go_wp2
  go_loopw [5] (fun i wr => ∃ k : Nat, k ≤ xs.length ∧ i = .int .i64 k ∧ Hid (∀ j, j < k → 0 ≤ xs.getD j 0 ∧ xs.getD j 0 < n) ∧ Below w.heap.size w wr) (fun i _ => xs.length - (intOf i).toNat)
  case atStart => exact ⟨0, Nat.zero_le _, rfl, fun j hj => absurd hj (by omega), Below.refl _ _⟩
  case round =>
    obtain ⟨k, hk, rfl, hall, hbel⟩ := hrel
    by_cases hlt : k < xs.length
    · obtain ⟨bb, off, rfl, hbs, hcell⟩ := HC.out k hlt
      have c1 : wr.cell? ⟨bb, off + k, none⟩ = some (.int .i64 (xs.getD k 0)) := (hbel.cell (p := ⟨bb, off + k, none⟩) hbs).trans (hcell k hlt)
      clear hcell
      obtain ⟨x, hx⟩ : ∃ x, x = xs.getD k 0 := ⟨_, rfl⟩
      rw [← hx] at c1
      have HX := Lib.hid hx; clear hx
      by_cases h0 : x < 0
      · have hf : b = false := by
          rw [← HB.out, decide_eq_false_iff_not]
          intro hall'
          have := hall' _ (mem_getD hlt)
          rw [← HX.out] at this
          omega
        subst hf
        go_wp2
        go_ret
        exact ⟨rfl, hbel⟩
      by_cases h1 : n ≤ x
      · have hf : b = false := by
          rw [← HB.out, decide_eq_false_iff_not]
          intro hall'
          have := hall' _ (mem_getD hlt)
          rw [← HX.out] at this
          omega
        subst hf
        go_wp2
        go_ret
        exact ⟨rfl, hbel⟩
      go_wp2
      go_roundw
      case rel =>
        refine ⟨k + 1, by omega, by go_num, fun j hj => ?_, hbel⟩
        by_cases hjk : j = k
        · subst hjk; rw [← HX.out]; omega
        exact hall.out j (by omega)
      case measure => simp [intOf]; omega
    obtain rfl : k = xs.length := by omega
    have ht : b = true := by
      rw [← HB.out, decide_eq_true_iff]
      exact allP_of hall.out
    subst ht
    go_wp2
    go_ret
    exact ⟨rfl, hbel⟩
end Go.Proofs.Ytbiplocgenppoaa
namespace Go.Proofs.Ytbiplocgenppoaa
open _root_.Go.Proofs.Try
open Go.RowKit
end Go.Proofs.Ytbiplocgenppoaa
namespace Go.Proofs.Ytbiplocgenppoaa
open _root_.Go.Proofs.Try
open Go.RowKit
end Go.Proofs.Ytbiplocgenppoaa
namespace Go.Proofs.Ytbiplocgenppoaa
open _root_.Go.Proofs.Try
open Go.RowKit
def seenOf (l : List Int) : List Int := l.foldl (fun s x => if x ∈ s then s else s ++ [x]) []
def clsTo (l : List Int) (k : Nat) : List Int := (List.range k).map fun (j : Nat) => ((seenOf (l.take j)).idxOf (l.getD j 0) : Int)
def clsOf (l : List Int) : List Int := clsTo l l.length
theorem specSame_any (w : World) (v1 v2 : Value) (xs ys : List Int) (h1 : Rd w v1 xs) (h2 : Rd w v2 ys) :
    Calls Try.prog 109 #[v1, v2] w (RetB w (decide (xs = ys))) := by
  obtain ⟨a, cap, rfl, hl, hc⟩ := h1
  obtain ⟨a2, cap2, rfl, hl2, hc2⟩ := h2
  by_cases hne : xs.length = ys.length
  · have hcmp : ((ys.length : Int) != (ys.length : Int)) = false := by simp
    rw [hne] at hl
    have HNE := Lib.hid hne; clear hne
    have HC := Lib.hid hc; clear hc
    have HC2 := Lib.hid hc2; clear hc2
    rw [HNE.out]
    go_enter func109, Try.ntmps109
    go_wp2
    go_loopw [5] (fun i wr => ∃ k : Nat, k ≤ ys.length ∧ i = .int .i64 k ∧ Hid (∀ j, j < k → xs.getD j 0 = ys.getD j 0) ∧ Below w.heap.size w wr) (fun i _ => ys.length - (intOf i).toNat)
    case atStart => exact ⟨0, Nat.zero_le _, rfl, fun j hj => absurd hj (by omega), Below.refl _ _⟩
    case round =>
      obtain ⟨k, hk, rfl, hall, hbel⟩ := hrel
      by_cases hlt : k < ys.length
      · obtain ⟨b, off, rfl, hb, hcell⟩ := HC.out k (by rw [HNE.out]; exact hlt)
        obtain ⟨b2, off2, rfl, hb2, hcell2⟩ := HC2.out k hlt
        have c1 : wr.cell? ⟨b, off + k, none⟩ = some (.int .i64 (xs.getD k 0)) := (hbel.cell (p := ⟨b, off + k, none⟩) hb).trans (hcell k (by rw [HNE.out]; exact hlt))
        have c2 : wr.cell? ⟨b2, off2 + k, none⟩ = some (.int .i64 (ys.getD k 0)) := (hbel.cell (p := ⟨b2, off2 + k, none⟩) hb2).trans (hcell2 k hlt)
        clear hcell hcell2 hb hb2
        obtain ⟨x, hx⟩ : ∃ x, x = xs.getD k 0 := ⟨_, rfl⟩
        obtain ⟨y, hy⟩ : ∃ y, y = ys.getD k 0 := ⟨_, rfl⟩
        rw [← hx] at c1
        rw [← hy] at c2
        have HX := Lib.hid hx; clear hx
        have HY := Lib.hid hy; clear hy
        by_cases hxy : x = y
        · subst hxy
          go_wp2
          go_quiet (fail)
          go_wp2
          go_roundw
          case rel =>
            refine ⟨k + 1, by omega, by go_num, fun j hj => ?_, below_quiet hbel⟩
            by_cases hjk : j = k
            · rw [hjk, ← HX.out, ← HY.out]
            exact hall.out j (by omega)
          case measure => simp [intOf]; omega
        have hb1 : (x != y) = true := by simpa using hxy
        have hfin : decide (xs = ys) = false := by
          rw [decide_eq_false_iff_not]
          exact list_ne_at (k := k) (by rw [HNE.out]; exact hlt) (by rw [← HX.out, ← HY.out]; exact hxy)
        have HF := Lib.hid hfin; clear hfin hxy
        go_wp2
        go_quiet (fail)
        go_wp2
        go_ret
        rw [HF.out]
        exact ⟨rfl, below_quiet hbel⟩
      have hfin : decide (xs = ys) = true := by
        rw [decide_eq_true_iff]
        exact list_eq_all HNE.out (fun j hj => hall.out j (by have := HNE.out; omega))
      have HF := Lib.hid hfin; clear hfin
      go_wp2
      go_ret
      rw [HF.out]
      exact ⟨rfl, hbel⟩
  have hfin : decide (xs = ys) = false := by
    rw [decide_eq_false_iff_not]
    exact fun e => hne (by rw [e])
  have hb1 : ((xs.length : Int) != (ys.length : Int)) = true := by
    rw [bne_iff_ne]; omega
  have HF := Lib.hid hfin; clear hfin hne hc hc2
  go_enter func109, Try.ntmps109
  go_wp2
  go_ret
  rw [HF.out]
  exact ⟨rfl, Below.refl _ _⟩
end Go.Proofs.Ytbiplocgenppoaa
namespace Go.Proofs.Ytbiplocgenppoaa
open _root_.Go.Proofs.Try
open Go.RowKit
open Go.Maps
end Go.Proofs.Ytbiplocgenppoaa
namespace Go.Proofs.Ytbiplocgenppoaa
open _root_.Go.Proofs.Try
open Go.RowKit
def PartP (p : List Int) : Prop := p.length ≤ 256 ∧ p = clsOf p
instance (p : List Int) : Decidable (PartP p) := inferInstanceAs (Decidable (_ ∧ _))
end Go.Proofs.Ytbiplocgenppoaa
namespace Go.Proofs.Ytbiplocgenppoaa
open _root_.Go.Proofs.Try
open Go.RowKit
def Rd2 (w : World) (v : Value) (rows : List (List Int)) : Prop :=
  ∃ (a : Option Addr) (cap : Nat), v = .slice a rows.length cap ∧ rows.length ≤ 5000000000000 ∧
    ∀ j, j < rows.length → ∃ b off, a = some ⟨b, off, none⟩ ∧ b < w.heap.size ∧ ∀ i, i < rows.length → ∃ u, w.cell? ⟨b, off + i, none⟩ = some u ∧ Rd w u (rows.getD i [])
theorem rd2_below {w w' : World} {v : Value} {rows : List (List Int)} (hb : Below w.heap.size w w') (h : Rd2 w v rows) : Rd2 w' v rows := by
  obtain ⟨a, cap, hv, hl, hc⟩ := h
  refine ⟨a, cap, hv, hl, fun j hj => ?_⟩
  obtain ⟨b, off, ha, hbs, hcell⟩ := hc j hj
  refine ⟨b, off, ha, Nat.lt_of_lt_of_le hbs hb.size, fun i hi => ?_⟩
  obtain ⟨u, h1, h2⟩ := hcell i hi
  exact ⟨u, (hb.cell (p := ⟨b, off + i, none⟩) hbs).trans h1, rd_below hb h2⟩
def Sl2 (w : World) (base : Nat) (v : Value) (rows : List (List Int)) : Prop :=
  ∃ us : List Value, us.length = rows.length ∧ rows.length ≤ 5000000000000 ∧ w.ownsRow base 24 1 v rows.length us ∧
    (∀ i, i < rows.length → Sl w base (us.getD i undef) (rows.getD i []) ∧ Apart (us.getD i undef) v) ∧
    ∀ i j, i < j → j < rows.length → Apart (us.getD i undef) (us.getD j undef)
theorem sl2_rd {w : World} {base : Nat} {v : Value} {rows : List (List Int)} (h : Sl2 w base v rows) : Rd2 w v rows := by
  obtain ⟨us, hul, hl, ⟨hlen, hor⟩, hr, _⟩ := h
  rcases hor with ⟨hv, hn⟩ | ⟨g, cap, cur, hv, hb, hg, hnc, hcm, hcs, ht⟩
  · exact ⟨none, 0, by rw [hv, hn], hl, fun j hj => by omega⟩
  refine ⟨some ⟨g, 0, none⟩, cap, hv, hl, fun j hj => ⟨g, 0, rfl, (Array.getElem?_eq_some_iff.1 hg).1, fun i hi => ⟨us.getD i undef, ?_, (hr i hi).1.rd⟩⟩⟩
  have h1 : us[i]? = some (us.getD i undef) := by
    rw [List.getD_eq_getElem?_getD, List.getElem?_eq_getElem (by omega)]; rfl
  rw [← ht] at h1
  rw [cell_of_row w g (0 + i) cur _ (0, 0) hg]
  rw [List.getElem?_take] at h1
  split at h1
  · rw [Nat.zero_add, ← ht]; simpa using h1
  cases h1
theorem infoS : (Try.prog.info? 24).map (fun i => (i.zero, i.size, i.bytes)) = some (some (.slice none 0 0), 1, 24) := by kernel_rfl
def RetRI (W : World) (rows : List (List Int)) (c : Int) (e : Ending) (w' : World) : Prop := ∃ v, e = .returned (.tuple #[v, .int .i64 c]) ∧ Sl2 w' W.heap.size v rows ∧ Below W.heap.size W w'
end Go.Proofs.Ytbiplocgenppoaa
namespace Go.Proofs.Ytbiplocgenppoaa
open _root_.Go.Proofs.Try
open Go.RowKit
theorem getD_set2 {α : Type} (l : List α) (x : Nat) (z d : α) (y : Nat) (hx : x < l.length) : (l.set x z).getD y d = if y = x then z else l.getD y d := by
  simp only [List.getD_eq_getElem?_getD, List.getElem?_set]
  by_cases h : x = y
  · subst h; simp [hx]
  rw [if_neg h, if_neg (fun e => h e.symm)]
theorem rows_fill {rows : List (List Int)} {k : Nat} (hk : k < rows.length) :
    (rows.take k ++ List.replicate (rows.length - k) []).set k (rows.getD k []) = rows.take (k + 1) ++ List.replicate (rows.length - (k + 1)) [] := by
  have hl : (rows.take k).length = k := by simp; omega
  have hts : rows.take (k + 1) = rows.take k ++ [rows.getD k []] := by
    rw [List.take_succ_eq_append_getElem hk]; simp [List.getD_eq_getElem?_getD, List.getElem?_eq_getElem hk]
  rw [List.set_append, if_neg (by omega), hl, Nat.sub_self, hts]
  obtain ⟨m, hm⟩ : ∃ m, rows.length - k = m + 1 := ⟨rows.length - k - 1, by omega⟩
  have hm' : rows.length - (k + 1) = m := by omega
  rw [hm, hm', List.replicate_succ]
  simp
def RetR (W : World) (rows : List (List Int)) (e : Ending) (w' : World) : Prop := ∃ v, e = .returned v ∧ Sl2 w' W.heap.size v rows ∧ Below W.heap.size W w'
end Go.Proofs.Ytbiplocgenppoaa
namespace Go.Proofs.Ytbiplocgenppoaa
open _root_.Go.Proofs.Try
open Go.RowKit
structure Fr (lo hi : Nat) (w w' : World) : Prop where
  os : w'.os = w.os
  tape : w'.tape = w.tape
  output : w'.output = w.output
  size : w.heap.size ≤ w'.heap.size
  block : ∀ k, k < w.heap.size → (k < lo ∨ hi ≤ k) → w'.heap[k]? = w.heap[k]?
def offR (rows : List (List Int)) : Nat → Nat
  | 0 => 0
  | j + 1 => offR rows j + (rows.getD j []).length
theorem offR_mono (rows : List (List Int)) : ∀ i j, i ≤ j → offR rows i ≤ offR rows j := by
  intro i j h
  induction j with
  | zero => have : i = 0 := by omega
            subst this; exact Nat.le_refl _
  | succ j ih =>
    by_cases he : i = j + 1
    · subst he; exact Nat.le_refl _
    have := ih (by omega)
    simp only [offR]
    omega
end Go.Proofs.Ytbiplocgenppoaa
namespace Go.Proofs.Ytbiplocgenppoaa
open _root_.Go.Proofs.Try
open Go.RowKit
def Agree (S : Nat → Prop) (w w' : World) : Prop := ∀ k, k < w.heap.size → S k → w'.heap[k]? = w.heap[k]?
structure FrS (S : Nat → Prop) (w w' : World) : Prop where
  os : w'.os = w.os
  tape : w'.tape = w.tape
  output : w'.output = w.output
  size : w.heap.size ≤ w'.heap.size
  block : ∀ k, k < w.heap.size → ¬ S k → w'.heap[k]? = w.heap[k]?
theorem frS_grown {S : Nat → Prop} {w w' : World} {v : Value} (hg : w.grownBy w' v.ownBlock) (hv : ∀ q, v.ownBlock = some q → S q) : FrS S w w' :=
  ⟨hg.os, hg.tape, hg.output, hg.size, fun k hk hr => hg.block k hk fun e => hr (hv k e.symm)⟩
theorem below_frS {B : Nat} {W w w' : World} {S : Nat → Prop} (hb : Below B W w) (hf : FrS S w w') (hB : B ≤ W.heap.size) (hlo : ∀ k, S k → B ≤ k) : Below B W w' :=
  hb.trans ⟨hf.os, hf.tape, hf.output, hf.size, fun k hk => hf.block k (by have := hb.size; omega) (fun e => by have := hlo k e; omega)⟩
theorem agree_below {S : Nat → Prop} {w w' : World} (hb : Below w.heap.size w w') : Agree S w w' := fun k hk _ => hb.block k hk
theorem agree_refl {S : Nat → Prop} {w : World} : Agree S w w := fun _ _ _ => rfl
structure Loc (P : World → (Nat → Prop) → Prop) : Prop where
  keep : ∀ {w w' : World} {S S' : Nat → Prop}, (∀ k, k < w.heap.size → S k → S' k) → Agree S w w' → P w S → P w' S'
theorem Loc.fin {P : World → (Nat → Prop) → Prop} (h : Loc P) {w : World} {S : Nat → Prop} (hp : P w S) : P w (fun k => S k ∧ k < w.heap.size) :=
  h.keep (fun _ hk hs => ⟨hs, hk⟩) agree_refl hp
def Own1 (v : Value) (xs : List Int) (w : World) (S : Nat → Prop) : Prop := Sl w 0 v xs ∧ ∀ q, v.ownBlock = some q → S q
def Own2 (v : Value) (rows : List (List Int)) (w : World) (S : Nat → Prop) : Prop :=
  ∃ us : List Value, us.length = rows.length ∧ rows.length ≤ 5000000000000 ∧ w.ownsRow 0 24 1 v rows.length us ∧
    (∀ i, i < rows.length → Sl w 0 (us.getD i undef) (rows.getD i []) ∧ Apart (us.getD i undef) v ∧ ∀ q, (us.getD i undef).ownBlock = some q → S q) ∧
    (∀ i j, i < j → j < rows.length → Apart (us.getD i undef) (us.getD j undef)) ∧ ∀ q, v.ownBlock = some q → S q
def Sep (A B : World → (Nat → Prop) → Prop) (w : World) (S : Nat → Prop) : Prop :=
  ∃ S1 S2 : Nat → Prop, (∀ k, S1 k → S k) ∧ (∀ k, S2 k → S k) ∧ (∀ k, S1 k → ¬ S2 k) ∧ A w S1 ∧ B w S2
theorem own_agree {w w' : World} {base : Nat} {e : TypeId} {sz : Nat} {v : Value} {n : Nat} {xs : List Value} (h : w.ownsRow base e sz v n xs) (hk : ∀ q, q < w.heap.size → v.ownBlock = some q → w'.heap[q]? = w.heap[q]?) : w'.ownsRow base e sz v n xs := by
  obtain ⟨h3, h4⟩ := h
  refine ⟨h3, ?_⟩
  rcases h4 with h | ⟨g, cap, cur, rfl, hbb, hg, rest⟩
  · exact .inl h
  exact .inr ⟨g, cap, cur, rfl, hbb, by rw [hk g (Array.getElem?_eq_some_iff.1 hg).1 rfl]; exact hg, rest⟩
theorem own1_loc (v : Value) (xs : List Int) : Loc (Own1 v xs) where
  keep hs ha h := ⟨⟨own_agree h.1.1 fun q hq e => ha q hq (h.2 q e), h.1.2⟩, fun q hq => hs q (h.1.1.lt q hq).2 (h.2 q hq)⟩
theorem own2_loc (v : Value) (rows : List (List Int)) : Loc (Own2 v rows) where
  keep hs ha h := by
    obtain ⟨us, h1, h2, h3, h4, h5, h6⟩ := h
    exact ⟨us, h1, h2, own_agree h3 fun q hq e => ha q hq (h6 q e), fun i hi => ⟨⟨own_agree (h4 i hi).1.1 fun q hq e => ha q hq ((h4 i hi).2.2 q e), (h4 i hi).1.2⟩, (h4 i hi).2.1, fun q hq => hs q ((h4 i hi).1.1.lt q hq).2 ((h4 i hi).2.2 q hq)⟩, h5, fun q hq => hs q (h3.lt q hq).2 (h6 q hq)⟩
theorem sep_loc {A B : World → (Nat → Prop) → Prop} (ha : Loc A) (hb : Loc B) : Loc (Sep A B) where
  keep {w w' S S'} hs hag h := by
    obtain ⟨S1, S2, k1, k2, hd, h1, h2⟩ := h
    refine ⟨fun k => S1 k ∧ k < w.heap.size, fun k => S2 k ∧ k < w.heap.size, fun k h => hs k h.2 (k1 k h.1), fun k h => hs k h.2 (k2 k h.1), fun k a b => hd k a.1 b.1, ?_, ?_⟩
    · exact ha.keep (fun _ hk hs => ⟨hs, hk⟩) (fun k hk hh => hag k hk (k1 k hh)) h1
    exact hb.keep (fun _ hk hs => ⟨hs, hk⟩) (fun k hk hh => hag k hk (k2 k hh)) h2
theorem Own1.rd {w : World} {S : Nat → Prop} {v : Value} {xs : List Int} (h : Own1 v xs w S) : Rd w v xs := h.1.rd
theorem Own2.sl {w : World} {S : Nat → Prop} {v : Value} {rows : List (List Int)} (h : Own2 v rows w S) : Sl2 w 0 v rows := by
  obtain ⟨us, h1, h2, h3, h4, h5, _⟩ := h
  exact ⟨us, h1, h2, h3, fun i hi => ⟨(h4 i hi).1, (h4 i hi).2.1⟩, h5⟩
theorem Own2.rd {w : World} {S : Nat → Prop} {v : Value} {rows : List (List Int)} (h : Own2 v rows w S) : Rd2 w v rows := sl2_rd h.sl
theorem own1_of {w : World} {lo : Nat} {v : Value} {xs : List Int} (h : Sl w lo v xs) : Own1 v xs w (fun k => lo ≤ k) := ⟨h.mono (Nat.zero_le _), fun q hq => (h.1.lt q hq).1⟩
theorem own_base {w : World} {lo : Nat} {e : TypeId} {sz : Nat} {v : Value} {n : Nat} {xs : List Value} (h : w.ownsRow lo e sz v n xs) : w.ownsRow 0 e sz v n xs := by
  obtain ⟨h3, h4⟩ := h
  refine ⟨h3, ?_⟩
  rcases h4 with h | ⟨g, cap, cur, rfl, hbb, rest⟩
  · exact .inl h
  exact .inr ⟨g, cap, cur, rfl, Nat.zero_le _, rest⟩
theorem own2_of {w : World} {lo : Nat} {v : Value} {rows : List (List Int)} (h : Sl2 w lo v rows) : Own2 v rows w (fun k => lo ≤ k) := by
  obtain ⟨us, h1, h2, h3, h4, h5⟩ := h
  exact ⟨us, h1, h2, own_base h3, fun i hi => ⟨(h4 i hi).1.mono (Nat.zero_le _), (h4 i hi).2, fun q hq => ((h4 i hi).1.1.lt q hq).1⟩, h5, fun q hq => (h3.lt q hq).1⟩
theorem own_lift {w : World} {lo : Nat} {e : TypeId} {sz : Nat} {v : Value} {n : Nat} {xs : List Value} (h : w.ownsRow 0 e sz v n xs) (hq : ∀ q, v.ownBlock = some q → lo ≤ q) : w.ownsRow lo e sz v n xs := by
  obtain ⟨h3, h4⟩ := h
  refine ⟨h3, ?_⟩
  rcases h4 with h | ⟨g, cap, cur, rfl, hbb, rest⟩
  · exact .inl h
  exact .inr ⟨g, cap, cur, rfl, hq g rfl, rest⟩
theorem Own1.at {w : World} {S : Nat → Prop} {lo : Nat} {v : Value} {xs : List Int} (h : Own1 v xs w S) (hs : ∀ k, S k → lo ≤ k) : Sl w lo v xs := ⟨own_lift h.1.1 fun q hq => hs q (h.2 q hq), h.1.2⟩
theorem Own2.at {w : World} {S : Nat → Prop} {lo : Nat} {v : Value} {rows : List (List Int)} (h : Own2 v rows w S) (hs : ∀ k, S k → lo ≤ k) : Sl2 w lo v rows := by
  obtain ⟨us, h1, h2, h3, h4, h5, h6⟩ := h
  exact ⟨us, h1, h2, own_lift h3 fun q hq => hs q (h6 q hq), fun i hi => ⟨⟨own_lift (h4 i hi).1.1 fun q hq => hs q ((h4 i hi).2.2 q hq), (h4 i hi).1.2⟩, (h4 i hi).2.1⟩, h5⟩
end Go.Proofs.Ytbiplocgenppoaa
namespace Go.Proofs.Ytbiplocgenppoaa
open _root_.Go.Proofs.Try
open Go.RowKit
structure Cat where
  ob : Int
  s : List Int
  t : List Int
  e : List Int
  m : List (List Int)
def at0 (l : List Int) (x : Int) : Int := l.getD x.toNat 0
def row2 (m : List (List Int)) (x : Int) : List Int := m.getD x.toNat []
def Cat.th (c : Cat) (f g : Int) : Int := at0 (row2 c.m f) g
def Cat.n (c : Cat) : Nat := c.s.length
noncomputable def bP (p : Prop) : Bool := @decide p (Classical.propDecidable p)
theorem bP_t {p : Prop} (h : p) : bP p = true := by unfold bP; exact @decide_eq_true p (Classical.propDecidable p) h
theorem bP_f {p : Prop} (h : ¬ p) : bP p = false := by unfold bP; exact @decide_eq_false p (Classical.propDecidable p) h
theorem bP_iff {p : Prop} : bP p = true ↔ p := by
  unfold bP; exact @decide_eq_true_iff p (Classical.propDecidable p)
theorem bP_dec {p : Prop} [Decidable p] : bP p = decide p := by
  by_cases h : p
  · rw [bP_t h, decide_eq_true h]
  rw [bP_f h, decide_eq_false h]
theorem bP_congr {p q : Prop} (h : p ↔ q) : bP p = bP q := by rw [propext h]
def Cat.arr (c : Cat) (f : Int) : Prop := 0 ≤ f ∧ f < c.s.length
def okIdent (c : Cat) (x : Nat) : Prop := c.arr (at0 c.e x) ∧ at0 c.s (at0 c.e x) = x ∧ at0 c.t (at0 c.e x) = x
def okComp (c : Cat) (f g : Int) : Prop :=
  (at0 c.t f = at0 c.s g → c.arr (c.th f g) ∧ at0 c.s (c.th f g) = at0 c.s f ∧ at0 c.t (c.th f g) = at0 c.t g) ∧ (at0 c.t f ≠ at0 c.s g → c.th f g = -1)
structure LenP (c : Cat) : Prop where
  ob0 : 0 ≤ c.ob
  ob8 : c.ob ≤ 8
  n40 : c.s.length ≤ 40
  el : (c.e.length : Int) = c.ob
  tl : c.t.length = c.s.length
  ml : c.m.length = c.s.length
structure ShapeP (c : Cat) : Prop extends LenP c where
  rl : ∀ j, j < c.m.length → (c.m.getD j []).length = c.s.length
  sa : AllP c.ob c.s
  ta : AllP c.ob c.t
  id : ∀ x : Nat, x < c.e.length → okIdent c x
  co : ∀ f g : Nat, f < c.s.length → g < c.s.length → okComp c f g
def badId (c : Cat) (f : Int) : Prop := ¬ (c.th (at0 c.e (at0 c.s f)) f = f ∧ c.th f (at0 c.e (at0 c.t f)) = f)
def badAs (c : Cat) (f g h : Int) : Prop := at0 c.t f = at0 c.s g ∧ at0 c.t g = at0 c.s h ∧ c.th (c.th f g) h ≠ c.th f (c.th g h)
noncomputable def firstN (p : Nat → Prop) (n : Nat) : Option Nat := (List.range n).find? fun k => bP (p k)
theorem firstN_none {p : Nat → Prop} {n : Nat} (h : ∀ k, k < n → ¬ p k) : firstN p n = none := by
  unfold firstN
  rw [List.find?_eq_none]
  intro x hx
  rw [bP_f (h x (by simpa using hx))]
  simp
theorem firstN_some {p : Nat → Prop} {n k : Nat} (hk : k < n) (hp : p k) (h : ∀ j, j < k → ¬ p j) : firstN p n = some k := by
  unfold firstN
  rw [List.find?_eq_some_iff_append]
  refine ⟨bP_t hp, List.range k, (List.range' (k + 1) (n - (k + 1))), ?_, fun a ha => ?_⟩
  · rw [List.range_eq_range', List.range_eq_range', show k :: List.range' (k + 1) (n - (k + 1)) = List.range' k (n - (k + 1) + 1) from rfl]
    have e : List.range' 0 n = List.range' 0 (k + (n - (k + 1) + 1)) := by congr 1; omega
    rw [e, ← List.range'_append_1]
    simp
  rw [bP_f (h a (by simpa using ha))]; rfl
theorem firstN_prop {p : Nat → Prop} {n k : Nat} (h : firstN p n = some k) : p k := by
  unfold firstN at h
  exact bP_iff.1 (List.find?_some (p := fun k => bP (p k)) h)
theorem firstN_no {p : Nat → Prop} {n : Nat} (h : firstN p n = none) {k : Nat} (hk : k < n) : ¬ p k := fun hp => by
  unfold firstN at h
  rw [List.find?_eq_none] at h
  exact h k (by simpa using hk) (bP_t hp)
noncomputable def first3 (p : Nat → Nat → Nat → Prop) (n : Nat) : Option (Nat × Nat × Nat) :=
  match firstN (fun f => ∃ g h, g < n ∧ h < n ∧ p f g h) n with
  | none => none
  | some f => match firstN (fun g => ∃ h, h < n ∧ p f g h) n with
    | none => none
    | some g => match firstN (fun h => p f g h) n with
      | none => none
      | some h => some (f, g, h)
theorem first3_none {p : Nat → Nat → Nat → Prop} {n : Nat} (h : ∀ f g k, f < n → g < n → k < n → ¬ p f g k) : first3 p n = none := by
  unfold first3
  rw [firstN_none fun f hf ⟨g, k, hg, hk, hp⟩ => h f g k hf hg hk hp]
noncomputable def faultOf (c : Cat) : Int × Int × Int × Int :=
  match firstN (fun f => badId c f) c.s.length with
  | some f => (1, f, 0, 0)
  | none => match first3 (fun f g h => badAs c f g h) c.s.length with
    | some (f, g, h) => (2, f, g, h)
    | none => (0, 0, 0, 0)
structure IsCat (c : Cat) : Prop extends ShapeP c where
  idl : ∀ f : Nat, f < c.s.length → c.th (at0 c.e (at0 c.s f)) f = f ∧ c.th f (at0 c.e (at0 c.t f)) = f
  assoc : ∀ f g h : Nat, f < c.s.length → g < c.s.length → h < c.s.length → ¬ badAs c f g h
theorem fault_no {c : Cat} (h0 : ∀ j : Nat, j < c.s.length → ¬ badId c j) (h1 : ∀ f g k : Nat, f < c.s.length → g < c.s.length → k < c.s.length → ¬ badAs c f g k) : faultOf c = (0, 0, 0, 0) := by
  unfold faultOf
  rw [firstN_none h0]
  simp only
  rw [first3_none h1]
theorem fault_zero {c : Cat} : (faultOf c).1 = 0 ↔ (∀ j : Nat, j < c.s.length → ¬ badId c j) ∧ ∀ f g k : Nat, f < c.s.length → g < c.s.length → k < c.s.length → ¬ badAs c f g k := by
  constructor
  · intro h
    unfold faultOf at h
    cases h1 : firstN (fun f => badId c f) c.s.length with
    | some f => rw [h1] at h; simp at h
    | none =>
      rw [h1] at h
      simp only at h
      refine ⟨fun j hj => firstN_no h1 hj, fun f g k hf hg hk hb => ?_⟩
      have hex : ∃ r, first3 (fun f g h : Nat => badAs c f g h) c.s.length = some r := by
        unfold first3
        cases e1 : firstN (fun f : Nat => ∃ g h : Nat, g < c.s.length ∧ h < c.s.length ∧ badAs c f g h) c.s.length with
        | none => exact absurd ⟨g, k, hg, hk, hb⟩ (firstN_no e1 hf)
        | some f1 =>
          obtain ⟨g1, k1, hg1, hk1, hb1⟩ := firstN_prop e1
          simp only
          cases e2 : firstN (fun g : Nat => ∃ h : Nat, h < c.s.length ∧ badAs c f1 g h) c.s.length with
          | none => exact absurd ⟨k1, hk1, hb1⟩ (firstN_no e2 hg1)
          | some g2 =>
            obtain ⟨k2, hk2, hb2⟩ := firstN_prop e2
            simp only
            cases e3 : firstN (fun h : Nat => badAs c f1 g2 h) c.s.length with
            | none => exact absurd hb2 (firstN_no e3 hk2)
            | some k3 => exact ⟨_, rfl⟩
      obtain ⟨⟨r1, r2, r3⟩, hr⟩ := hex
      rw [hr] at h
      simp at h
  rintro ⟨h1, h2⟩
  rw [fault_no h1 h2]
noncomputable def fIsShape (c : Cat) : Bool := bP (ShapeP c)
noncomputable def fIsCategory (c : Cat) : Bool := bP (IsCat c)
theorem isCat_iff {c : Cat} : IsCat c ↔ ShapeP c ∧ (faultOf c).1 = 0 := by
  rw [fault_zero]
  constructor
  · intro h
    exact ⟨h.toShapeP, fun j hj hb => hb (h.idl j hj), h.assoc⟩
  rintro ⟨h1, h2, h3⟩
  exact ⟨h1, fun f hf => Classical.not_not.1 (h2 f hf), h3⟩
theorem at0_nat (l : List Int) (k : Nat) : at0 l (k : Int) = l.getD k 0 := by simp [at0]
theorem allP_at {n : Int} {l : List Int} (h : AllP n l) {k : Nat} (hk : k < l.length) : 0 ≤ at0 l k ∧ at0 l k < n := by
  rw [at0_nat]; exact h _ (mem_getD hk)
theorem ShapeP.src {c : Cat} (h : ShapeP c) {f : Nat} (hf : f < c.s.length) : 0 ≤ at0 c.s f ∧ at0 c.s f < c.ob := allP_at h.sa hf
theorem ShapeP.tgt {c : Cat} (h : ShapeP c) {f : Nat} (hf : f < c.s.length) : 0 ≤ at0 c.t f ∧ at0 c.t f < c.ob := allP_at h.ta (by rw [h.tl]; exact hf)
theorem ShapeP.idn {c : Cat} (h : ShapeP c) {x : Int} (h0 : 0 ≤ x) (h1 : x < c.ob) : 0 ≤ at0 c.e x ∧ at0 c.e x < c.s.length ∧ at0 c.s (at0 c.e x) = x ∧ at0 c.t (at0 c.e x) = x := by
  obtain ⟨k, rfl⟩ := Int.eq_ofNat_of_zero_le h0
  have := h.el
  have hk := h.id k (by omega)
  exact ⟨hk.1.1, hk.1.2, hk.2.1, hk.2.2⟩
end Go.Proofs.Ytbiplocgenppoaa
namespace Go.Proofs.Ytbiplocgenppoaa
open _root_.Go.Proofs.Try
open Go.RowKit
def up (l : List Int) (x : Nat) : Nat := (l.getD x 0).toNat
end Go.Proofs.Ytbiplocgenppoaa
namespace Go.Proofs.Ytbiplocgenppoaa
open _root_.Go.Proofs.Try
open Go.RowKit
end Go.Proofs.Ytbiplocgenppoaa
namespace Go.Proofs.Ytbiplocgenppoaa
open _root_.Go.Proofs.Try
open Go.RowKit
end Go.Proofs.Ytbiplocgenppoaa
namespace Go.Proofs.Ytbiplocgenppoaa
open _root_.Go.Proofs.Try
open Go.RowKit
end Go.Proofs.Ytbiplocgenppoaa
namespace Go.Proofs.Ytbiplocgenppoaa
open _root_.Go.Proofs.Try
open Go.RowKit
end Go.Proofs.Ytbiplocgenppoaa
namespace Go.Proofs.Ytbiplocgenppoaa
open _root_.Go.Proofs.Try
open Go.RowKit
open Go.ChangeShapes Go.WideShapes Go.ChangeAt
def PairsP (n : Int) (ps : List (List Int)) : Prop := ∀ r ∈ ps, r.length = 2 ∧ AllP n r
instance (n : Int) (ps : List (List Int)) : Decidable (PairsP n ps) := inferInstanceAs (Decidable (∀ r ∈ ps, _))
end Go.Proofs.Ytbiplocgenppoaa
namespace Go.Proofs.Ytbiplocgenppoaa
open _root_.Go.Proofs.Try
open Go.RowKit
def RdC (w : World) (v : Value) (c : Cat) : Prop :=
  ∃ vs vt ve vm, v = .agg #[.int .i64 c.ob, vs, vt, ve, vm] ∧ Rd w vs c.s ∧ Rd w vt c.t ∧ Rd w ve c.e ∧ Rd2 w vm c.m
def OwnC (v : Value) (c : Cat) (w : World) (S : Nat → Prop) : Prop :=
  ∃ vs vt ve vm, v = .agg #[.int .i64 c.ob, vs, vt, ve, vm] ∧ Sep (Own1 vs c.s) (Sep (Own1 vt c.t) (Sep (Own1 ve c.e) (Own2 vm c.m))) w S
theorem ownC_loc (v : Value) (c : Cat) : Loc (OwnC v c) where
  keep hs ha h := by
    obtain ⟨vs, vt, ve, vm, hv, h⟩ := h
    exact ⟨vs, vt, ve, vm, hv, (sep_loc (own1_loc _ _) (sep_loc (own1_loc _ _) (sep_loc (own1_loc _ _) (own2_loc _ _)))).keep hs ha h⟩
theorem rdC_below {w w' : World} {v : Value} {c : Cat} (hb : Below w.heap.size w w') (h : RdC w v c) : RdC w' v c := by
  obtain ⟨vs, vt, ve, vm, hv, h1, h2, h3, h4⟩ := h
  exact ⟨vs, vt, ve, vm, hv, rd_below hb h1, rd_below hb h2, rd_below hb h3, rd2_below hb h4⟩
theorem rd_form {w : World} {v : Value} {xs : List Int} (h : Rd w v xs) : ∃ (a : Option Addr) (cap : Nat), v = .slice a xs.length cap := by
  obtain ⟨a, cap, hv, _⟩ := h
  exact ⟨a, cap, hv⟩
theorem rd2_form {w : World} {v : Value} {xs : List (List Int)} (h : Rd2 w v xs) : ∃ (a : Option Addr) (cap : Nat), v = .slice a xs.length cap := by
  obtain ⟨a, cap, hv, _⟩ := h
  exact ⟨a, cap, hv⟩
def RetC (W : World) (c : Cat) (e : Ending) (w' : World) : Prop := ∃ v, e = .returned v ∧ OwnC v c w' (fun k => W.heap.size ≤ k) ∧ Below W.heap.size W w'
def RetCI (W : World) (c : Cat) (n : Int) (e : Ending) (w' : World) : Prop := ∃ v, e = .returned (.tuple #[v, .int .i64 n]) ∧ OwnC v c w' (fun k => W.heap.size ≤ k) ∧ Below W.heap.size W w'
end Go.Proofs.Ytbiplocgenppoaa
namespace Go.Proofs.Ytbiplocgenppoaa
open _root_.Go.Proofs.Try
open Go.RowKit
def Bx (w : World) (B : Nat) (t : TypeId) (cs : List Value) : Prop := w.heap[B]? = some (.cells cs.toArray t (0, 0))
theorem bx_below {w w' : World} {B : Nat} {t : TypeId} {cs : List Value} (hb : Below w.heap.size w w') (h : Bx w B t cs) : Bx w' B t cs := by
  unfold Bx at h ⊢
  rw [hb.block B (Array.getElem?_eq_some_iff.1 h).1]; exact h
theorem bx_lt {w : World} {B : Nat} {t : TypeId} {cs : List Value} (h : Bx w B t cs) : B < w.heap.size := (Array.getElem?_eq_some_iff.1 h).1
theorem bx_cell {w : World} {B : Nat} {t : TypeId} {cs : List Value} (h : Bx w B t cs) (i : Nat) {v : Value} (hv : cs[i]? = some v) : w.cell? ⟨B, i, none⟩ = some v := by
  rw [cell_of_row w B i _ _ (0, 0) h]; simpa using hv
theorem bx_frozen {w : World} {B : Nat} {t : TypeId} {cs : List Value} (h : Bx w B t cs) (i : Nat) : w.frozen? ⟨B, i, none⟩ = false := frozen_of_row w B i _ _ h
theorem bx_set {w : World} {B : Nat} {t : TypeId} {cs : List Value} (h : Bx w B t cs) (i : Nat) (v : Value) : Bx (w.setCell ⟨B, i, none⟩ v) B t (cs.set i v) := by
  have := heap_setCell_same w B i _ _ v h
  unfold Bx
  rw [this]; simp
theorem bx_new (w : World) (t : TypeId) (cs : List Value) : Bx (w.alloc (.cells cs.toArray t)) w.heap.size t cs := by
  unfold Bx; exact heap_alloc_new w _
theorem agree_set {w : World} {B i : Nat} {v : Value} {S : Nat → Prop} (h : ¬ S B) : Agree S w (w.setCell ⟨B, i, none⟩ v) := fun k _ hs => heap_setCell_other w ⟨B, i, none⟩ k v (fun e => h (by have e' : k = B := e; rw [← e']; exact hs))
theorem frS_set {w : World} {B i : Nat} {v : Value} {S : Nat → Prop} (h : S B) : FrS S w (w.setCell ⟨B, i, none⟩ v) :=
  ⟨rfl, rfl, rfl, by simp, fun k _ hk => heap_setCell_other w ⟨B, i, none⟩ k v (fun e => hk (by rw [e]; exact h))⟩
theorem bx5 {w : World} {B : Nat} {t : TypeId} {a b d e f : Value} (h : Bx w B t [a, b, d, e, f]) :
    w.cell? ⟨B, 0, none⟩ = some a ∧ w.cell? ⟨B, 1, none⟩ = some b ∧ w.cell? ⟨B, 2, none⟩ = some d ∧ w.cell? ⟨B, 3, none⟩ = some e ∧ w.cell? ⟨B, 4, none⟩ = some f :=
  ⟨bx_cell h 0 rfl, bx_cell h 1 rfl, bx_cell h 2 rfl, bx_cell h 3 rfl, bx_cell h 4 rfl⟩
end Go.Proofs.Ytbiplocgenppoaa
namespace Go.Proofs.Ytbiplocgenppoaa
open _root_.Go.Proofs.Try
open Go.RowKit
open Go.Joins Go.ChangeShapes Go.WideShapes Go.Deep
theorem frS_new {S : Nat → Prop} {w w' : World} (hb : Below w.heap.size w w') : FrS S w w' := ⟨hb.os, hb.tape, hb.output, hb.size, fun k hk _ => hb.block k hk⟩
theorem ownC_open {w : World} {S : Nat → Prop} {v : Value} {c : Cat} (h : OwnC v c w S) : ∃ (vs vt ve vm : Value) (P1 P2 P3 P4 : Nat → Prop), v = .agg #[.int .i64 c.ob, vs, vt, ve, vm] ∧
    Own1 vs c.s w P1 ∧ Own1 vt c.t w P2 ∧ Own1 ve c.e w P3 ∧ Own2 vm c.m w P4 ∧ (∀ k, P1 k ∨ P2 k ∨ P3 k ∨ P4 k → S k ∧ k < w.heap.size) ∧
    (∀ k, P1 k → ¬ P2 k) ∧ (∀ k, P1 k → ¬ P3 k) ∧ (∀ k, P1 k → ¬ P4 k) ∧ (∀ k, P2 k → ¬ P3 k) ∧ (∀ k, P2 k → ¬ P4 k) ∧ (∀ k, P3 k → ¬ P4 k) := by
  obtain ⟨vs, vt, ve, vm, rfl, S1, T1, a1, b1, d1, h1, S2, T2, a2, b2, d2, h2, S3, S4, a3, b3, d3, h3, h4⟩ := h
  refine ⟨vs, vt, ve, vm, _, _, _, _, rfl, (own1_loc _ _).fin h1, (own1_loc _ _).fin h2, (own1_loc _ _).fin h3, (own2_loc _ _).fin h4, ?_, fun k h h' => d1 k h.1 (a2 k h'.1), fun k h h' => d1 k h.1 (b2 k (a3 k h'.1)), fun k h h' => d1 k h.1 (b2 k (b3 k h'.1)), fun k h h' => d2 k h.1 (a3 k h'.1), fun k h h' => d2 k h.1 (b3 k h'.1), fun k h h' => d3 k h.1 h'.1⟩
  rintro k (h | h | h | h)
  · exact ⟨a1 k h.1, h.2⟩
  · exact ⟨b1 k (a2 k h.1), h.2⟩
  · exact ⟨b1 k (b2 k (a3 k h.1)), h.2⟩
  exact ⟨b1 k (b2 k (b3 k h.1)), h.2⟩
theorem ownC_shut {w : World} {S : Nat → Prop} {c : Cat} {vs vt ve vm : Value} {P1 P2 P3 P4 : Nat → Prop} (h1 : Own1 vs c.s w P1) (h2 : Own1 vt c.t w P2) (h3 : Own1 ve c.e w P3) (h4 : Own2 vm c.m w P4)
    (hs : ∀ k, P1 k ∨ P2 k ∨ P3 k ∨ P4 k → S k) (d12 : ∀ k, P1 k → ¬ P2 k) (d13 : ∀ k, P1 k → ¬ P3 k) (d14 : ∀ k, P1 k → ¬ P4 k) (d23 : ∀ k, P2 k → ¬ P3 k) (d24 : ∀ k, P2 k → ¬ P4 k) (d34 : ∀ k, P3 k → ¬ P4 k) :
    OwnC (.agg #[.int .i64 c.ob, vs, vt, ve, vm]) c w S :=
  ⟨vs, vt, ve, vm, rfl, P1, fun k => P2 k ∨ P3 k ∨ P4 k, fun k h => hs k (.inl h), fun k h => hs k (.inr h), fun k h h' => by rcases h' with h' | h' | h'; exact d12 k h h'; exact d13 k h h'; exact d14 k h h', h1,
    P2, fun k => P3 k ∨ P4 k, fun k h => .inl h, fun k h => .inr h, fun k h h' => by rcases h' with h' | h'; exact d23 k h h'; exact d24 k h h', h2, P3, P4, fun k h => .inl h, fun k h => .inr h, d34, h3, h4⟩
end Go.Proofs.Ytbiplocgenppoaa
