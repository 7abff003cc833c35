
/- JoinPairs: the program and its model; lists of lists that came in. -/
import Derived.StillTailTactics
import Derived.Test.YtbfenibkbmkcaabCoeq
import Derived.Test.YtbfenibkbmkcaabRows2
set_option linter.unusedSimpArgs false
set_option linter.unusedVariables false
set_option linter.unusedSectionVars false
namespace Go.Proofs.Ytbfenibkbmkcaab
open Go.RowKit
open Go.ChangeShapes Go.WideShapes Go.ChangeAt

/-- A list of lists that came in. -/
def In2 (w : World) (v : Value) (rows : List (List Int)) : Prop :=
  ∃ (a : Option Addr) (cap : Nat), v = .slice a rows.length cap ∧ rows.length ≤ maxLen ∧
    ∀ j, j < rows.length → ∃ b off, a = some ⟨b, off, none⟩ ∧ b < w.heap.size ∧ ∀ i, i < rows.length → ∃ u, w.cell? ⟨b, off + i, none⟩ = some u ∧ In w u (rows.getD i [])

theorem In2.rd {w : World} {v : Value} {rows : List (List Int)} (h : In2 w v rows) (hl : rows.length + offR rows rows.length ≤ 1048576) : Rd2 w v rows := by
  obtain ⟨a, cap, hv, _, hc⟩ := h
  refine ⟨a, cap, hv, by omega, fun j hj => ?_⟩
  obtain ⟨b, off, ha, hb, hcell⟩ := hc j hj
  refine ⟨b, off, ha, hb, fun i hi => ?_⟩
  obtain ⟨u, h1, h2⟩ := hcell i hi
  refine ⟨u, h1, h2.rd ?_⟩
  have hm := offR_mono rows (i + 1) rows.length (by omega)
  simp only [offR] at hm
  omega

theorem in_below {w w' : World} {v : Value} {xs : List Int} (hb : Below w.heap.size w w') (h : In w v xs) : In w' v xs := by
  obtain ⟨a, cap, hv, hl, hw, hc⟩ := h
  refine ⟨a, cap, hv, hl, hw, fun j hj => ?_⟩
  obtain ⟨b, off, ha, hbs, hcell⟩ := hc j hj
  exact ⟨b, off, ha, Nat.lt_of_lt_of_le hbs hb.size, fun i hi => (hb.cell (p := ⟨b, off + i, none⟩) hbs).trans (hcell i hi)⟩

set_option maxRecDepth 100000 in
theorem open_in2 {H : Type} {enc : TypeId × Value → H} {w : World} {v : Value} {d : DataW H} {ps : List MemPlace} {base : Nat}
    (hv : Value.okWide Try.prog w .any base 23 v) (h : DataW.Trod enc Try.prog w 0 (fun _ => true) true 23 v d ps) : ∃ rows, In2 w v rows := by
  obtain ⟨a0, len, cap, rfl⟩ := okWide_slice Try.underlying23 hv
  obtain ⟨fuel, hf⟩ := h
  rcases Go.Deep.open_int_rows Try.underlying23 Try.underlying22 Try.underlying2 cellsS64 cells64 hf with ⟨hcs, _⟩ | ⟨a, len', cap', A, L, C, Z, hcs, _, hl, hm, _, hrow⟩
  · simp [Value.cells] at hcs
    obtain ⟨rfl, rfl, rfl⟩ := hcs
    exact ⟨[], none, 0, rfl, Nat.zero_le _, fun j hj => absurd hj (Nat.not_lt_zero _)⟩
  · simp [Value.cells] at hcs
    obtain ⟨rfl, rfl, rfl⟩ := hcs
    have hrl : ((List.range len).map fun r => (Z r).take (L r)).length = len := by simp
    refine ⟨(List.range len).map fun r => (Z r).take (L r), some a, cap, by rw [hrl], by rw [hrl]; omega, fun j hj => ?_⟩
    rw [hrl] at hj
    obtain ⟨b, off, spot⟩ := a
    have hspot : spot = none := by simpa [Addr.add] using World.cell?_spot (hrow 0 (by omega)).1
    subst hspot
    refine ⟨b, off, rfl, World.block_lt_of_cell? w _ (by simpa using (hrow 0 (by omega)).1), fun i hi => ?_⟩
    rw [hrl] at hi
    obtain ⟨h1, h2, h3, h4, h5, h6, h7⟩ := hrow i (by omega)
    rw [Addr.add_lit] at h1
    have hgd : ((List.range len).map fun r => (Z r).take (L r)).getD i [] = (Z i).take (L i) := by simp [List.getD_eq_getElem?_getD, hi]
    rw [hgd]
    have htl : ((Z i).take (L i)).length = L i := by simp; omega
    refine ⟨_, h1, A i, C i, by rw [htl], by omega, fun x hx => h5 x (List.mem_of_mem_take hx), fun q hq => ?_⟩
    rw [htl] at hq
    cases hA : A i with
    | none => have := h6 hA; omega
    | some a' =>
      obtain ⟨hbase, hcells⟩ := h7 a' hA
      obtain ⟨b', off', spot'⟩ := a'
      have hs2 : spot' = none := by simpa [Addr.add] using World.cell?_spot (hcells 0 (by omega))
      subst hs2
      refine ⟨b', off', rfl, World.block_lt_of_cell? w _ (by simpa using hcells 0 (by omega)), fun c hc => ?_⟩
      rw [htl] at hc
      rw [take_getD hc]
      have hh := hcells c (by omega)
      rw [Addr.add_lit] at hh
      exact hh

theorem sz_any (w : World) (v : Value) (xs : List Int) (left : Int) (h : In w v xs) (h0 : 0 ≤ left) (h1 : left ≤ 1048576) :
    Calls Try.prog 33 #[v, .int .i64 left] w (Same w (.int .i64 (if (xs.length : Int) ≤ left then left - xs.length else -1))) := by
  obtain ⟨a, cap, rfl, hm, _⟩ := h
  unfold maxLen at hm
  by_cases hc : (xs.length : Int) ≤ left
  · rw [if_pos hc]
    go_enter Try.func33, Try.ntmps33
    go_wp2
    go_ret
    exact ⟨rfl, rfl⟩
  · rw [if_neg hc]
    have hlt : left < (xs.length : Int) := by omega
    clear hc
    go_enter Try.func33, Try.ntmps33
    go_wp2
    go_ret
    exact ⟨rfl, rfl⟩

set_option maxHeartbeats 800000 in
set_option maxRecDepth 100000 in
theorem sz2_any (w : World) (v : Value) (rows : List (List Int)) (left : Int) (h : In2 w v rows) (h0 : 0 ≤ left) (h1 : left ≤ 1048576) :
    Calls Try.prog 12 #[v, .int .i64 left] w (fun e w' => e = .returned (.int .i64 (if ((rows.length + offR rows rows.length : Nat) : Int) ≤ left then left - ((rows.length + offR rows rows.length : Nat) : Int) else -1)) ∧ Below w.heap.size w w') := by
  obtain ⟨a, cap, rfl, hm, hc⟩ := h
  unfold maxLen at hm
  have HC := Lib.hid hc; clear hc
  have HMONO := Lib.hid (offR_mono rows)
  by_cases hlen : (rows.length : Int) ≤ left
  · obtain ⟨res, hres⟩ : ∃ res, res = (if ((rows.length + offR rows rows.length : Nat) : Int) ≤ left then left - ((rows.length + offR rows rows.length : Nat) : Int) else -1) := ⟨_, rfl⟩
    rw [← hres]
    have HRES := Lib.hid hres; clear hres
    go_enter Try.func12, Try.ntmps12
    go_wp2
    go_loopw [1, 5] (fun c i wr => ∃ k : Nat, k ≤ rows.length ∧ i = .int .i64 k ∧ c = .int .i64 (left - rows.length - (offR rows k : Int)) ∧ (offR rows k : Int) ≤ left - rows.length ∧ Below w.heap.size w wr) (fun _ i _ => rows.length - (intOf i).toNat)
    case atStart => exact ⟨0, Nat.zero_le _, rfl, by simp [offR], by simp [offR]; omega, Below.refl _ _⟩
    case round =>
      obtain ⟨k, hk, rfl, rfl, hle, hbel⟩ := hrel
      by_cases hlt : k < rows.length
      · obtain ⟨b, off, rfl, hb, hcell⟩ := HC.out k hlt
        obtain ⟨u, hu1, hu2⟩ := hcell k hlt
        have c1 : wr.cell? ⟨b, off + k, none⟩ = some u := (hbel.cell (p := ⟨b, off + k, none⟩) hb).trans hu1
        have hin := in_below hbel hu2
        have hoff : offR rows (k + 1) = offR rows k + (rows.getD k []).length := rfl
        have hmm := HMONO.out (k + 1) rows.length (by omega)
        obtain ⟨r, hr⟩ : ∃ r, r = rows.getD k [] := ⟨_, rfl⟩
        rw [← hr] at hin hoff
        obtain ⟨n, hn⟩ : ∃ n, n = offR rows k := ⟨_, rfl⟩
        rw [← hn] at hoff hle
        rw [← hn]
        have hrl : (r.length : Int) ≤ 9223372036854775807 := by
          obtain ⟨_, _, _, h3, _⟩ := hin
          unfold maxLen at h3; omega
        by_cases hfit : (r.length : Int) ≤ left - rows.length - n
        · skip
          have HOFF := Lib.hid hoff; clear hoff hr hn hmm hcell hu1 hu2
          go_wp2_with fail
          refine (sz_any _ _ r (left - rows.length - (n : Int)) hin (by omega) (by omega)).mono ?_; rw [if_pos (by omega)]; rintro e w1 ⟨rfl, rfl⟩
          go_wp2
          go_roundw
          case rel => exact ⟨k + 1, by omega, by go_num, by rw [HOFF.out]; go_num, by rw [HOFF.out]; omega, hbel⟩
          case measure => simp [intOf]; omega
        · have hrr : res = -1 := by rw [HRES.out, if_neg (by omega)]
          subst hrr
          have hfit2 : left - rows.length - (n : Int) < (r.length : Int) := by omega
          clear hoff hr hn hmm hcell hu1 hu2 hfit
          go_wp2_with fail
          refine (sz_any _ _ r (left - rows.length - (n : Int)) hin (by omega) (by omega)).mono ?_; rw [if_neg (by omega)]; rintro e w1 ⟨rfl, rfl⟩
          go_wp2
          go_ret
          exact ⟨rfl, hbel⟩
      · obtain rfl : k = rows.length := by omega
        have hrr : res = left - rows.length - (offR rows rows.length : Int) := by rw [HRES.out, if_pos (by omega)]; omega
        subst hrr
        go_wp2
        go_ret
        exact ⟨rfl, hbel⟩
  · rw [if_neg (by omega)]
    have hlt : left < (rows.length : Int) := by omega
    clear hlen
    go_enter Try.func12, Try.ntmps12
    go_wp2
    go_ret
    exact ⟨rfl, Below.refl _ _⟩

def pairsB (n : Int) (ps : List (List Int)) : Bool := ps.all fun r => decide (r.length = 2) && decide (AllP n r)
def PairsP (n : Int) (ps : List (List Int)) : Prop := ∀ r ∈ ps, r.length = 2 ∧ AllP n r
instance (n : Int) (ps : List (List Int)) : Decidable (PairsP n ps) := inferInstanceAs (Decidable (∀ r ∈ ps, _))
def fJoinPairs (n : Int) (ps : List (List Int)) : List Int × Int :=
  if SizeP n then (if PairsP n ps then (clsOf (implL n.toNat ps), 0) else ([], 1)) else ([], 2)

theorem row_mem {ps : List (List Int)} {k : Nat} (hk : k < ps.length) : ps.getD k [] ∈ ps := by
  rw [List.getD_eq_getElem?_getD, List.getElem?_eq_getElem hk]; exact List.getElem_mem hk

theorem rows_all {ps : List (List Int)} {q : List Int → Prop} (h : ∀ j, j < ps.length → q (ps.getD j [])) : ∀ r ∈ ps, q r := fun r hr => by
  obtain ⟨j, hj, rfl⟩ := List.getElem_of_mem hr
  have := h j hj
  simpa [List.getD_eq_getElem?_getD, List.getElem?_eq_getElem hj] using this

end Go.Proofs.Ytbfenibkbmkcaab
