
/- JoinPairs: the program and its model; lists of lists that came in. -/
import Derived.StillTailTactics
import Derived.Test.YtgkfampgofjkfaaCoeq
import Derived.Test.YtgkfampgofjkfaaRows2
set_option linter.unusedSimpArgs false
set_option linter.unusedVariables false
set_option linter.unusedSectionVars false
namespace Go.Proofs.Ytgkfampgofjkfaa
open Go.RowKit
open Go.ChangeShapes Go.WideShapes Go.ChangeAt

/-- A list of lists that came in. -/
def In2 (w : World) (v : Value) (rows : List (List Int)) : Prop :=
  ∃ (a : Option Addr) (cap : Nat), v = .slice a rows.length cap ∧ rows.length ≤ maxLen ∧
    ∀ j, j < rows.length → ∃ b off, a = some ⟨b, off, none⟩ ∧ b < w.heap.size ∧ ∀ i, i < rows.length → ∃ u, w.cell? ⟨b, off + i, none⟩ = some u ∧ In w u (rows.getD i [])

theorem In2.rd {w : World} {v : Value} {rows : List (List Int)} (h : In2 w v rows) (hl : rows.length + offR rows rows.length ≤ 1048576) : Rd2 w v rows := by
  obtain ⟨a, cap, hv, _, hc⟩ := h
  refine ⟨a, cap, hv, by omega, fun j hj => ?_⟩
  obtain ⟨b, off, ha, hb, hcell⟩ := hc j hj
  refine ⟨b, off, ha, hb, fun i hi => ?_⟩
  obtain ⟨u, h1, h2⟩ := hcell i hi
  refine ⟨u, h1, h2.rd ?_⟩
  have hm := offR_mono rows (i + 1) rows.length (by omega)
  simp only [offR] at hm
  omega

theorem in_below {w w' : World} {v : Value} {xs : List Int} (hb : Below w.heap.size w w') (h : In w v xs) : In w' v xs := by
  obtain ⟨a, cap, hv, hl, hw, hc⟩ := h
  refine ⟨a, cap, hv, hl, hw, fun j hj => ?_⟩
  obtain ⟨b, off, ha, hbs, hcell⟩ := hc j hj
  exact ⟨b, off, ha, Nat.lt_of_lt_of_le hbs hb.size, fun i hi => (hb.cell (p := ⟨b, off + i, none⟩) hbs).trans (hcell i hi)⟩

set_option maxRecDepth 100000 in
theorem open_in2 {H : Type} {enc : TypeId × Value → H} {w : World} {v : Value} {d : DataW H} {ps : List MemPlace} {base : Nat}
    (hv : Value.okWide Try.prog w .any base 23 v) (h : DataW.Trod enc Try.prog w 0 (fun _ => true) true 23 v d ps) : ∃ rows, In2 w v rows := by
  obtain ⟨a0, len, cap, rfl⟩ := okWide_slice Try.underlying23 hv
  obtain ⟨fuel, hf⟩ := h
  rcases Go.Deep.open_int_rows Try.underlying23 Try.underlying22 Try.underlying2 cellsS64 cells64 hf with ⟨hcs, _⟩ | ⟨a, len', cap', A, L, C, Z, hcs, _, hl, hm, _, hrow⟩
  · simp [Value.cells] at hcs
    obtain ⟨rfl, rfl, rfl⟩ := hcs
    exact ⟨[], none, 0, rfl, Nat.zero_le _, fun j hj => absurd hj (Nat.not_lt_zero _)⟩
  · simp [Value.cells] at hcs
    obtain ⟨rfl, rfl, rfl⟩ := hcs
    have hrl : ((List.range len).map fun r => (Z r).take (L r)).length = len := by simp
    refine ⟨(List.range len).map fun r => (Z r).take (L r), some a, cap, by rw [hrl], by rw [hrl]; omega, fun j hj => ?_⟩
    rw [hrl] at hj
    obtain ⟨b, off, spot⟩ := a
    have hspot : spot = none := by simpa [Addr.add] using World.cell?_spot (hrow 0 (by omega)).1
    subst hspot
    refine ⟨b, off, rfl, World.block_lt_of_cell? w _ (by simpa using (hrow 0 (by omega)).1), fun i hi => ?_⟩
    rw [hrl] at hi
    obtain ⟨h1, h2, h3, h4, h5, h6, h7⟩ := hrow i (by omega)
    rw [Addr.add_lit] at h1
    have hgd : ((List.range len).map fun r => (Z r).take (L r)).getD i [] = (Z i).take (L i) := by simp [List.getD_eq_getElem?_getD, hi]
    rw [hgd]
    have htl : ((Z i).take (L i)).length = L i := by simp; omega
    refine ⟨_, h1, A i, C i, by rw [htl], by omega, fun x hx => h5 x (List.mem_of_mem_take hx), fun q hq => ?_⟩
    rw [htl] at hq
    cases hA : A i with
    | none => have := h6 hA; omega
    | some a' =>
      obtain ⟨hbase, hcells⟩ := h7 a' hA
      obtain ⟨b', off', spot'⟩ := a'
      have hs2 : spot' = none := by simpa [Addr.add] using World.cell?_spot (hcells 0 (by omega))
      subst hs2
      refine ⟨b', off', rfl, World.block_lt_of_cell? w _ (by simpa using hcells 0 (by omega)), fun c hc => ?_⟩
      rw [htl] at hc
      rw [take_getD hc]
      have hh := hcells c (by omega)
      rw [Addr.add_lit] at hh
      exact hh

theorem sz_any (w : World) (v : Value) (xs : List Int) (left : Int) (h : In w v xs) (h0 : 0 ≤ left) (h1 : left ≤ 1048576) :
    Calls Try.prog 32 #[v, .int .i64 left] w (Same w (.int .i64 (if (xs.length : Int) ≤ left then left - xs.length else -1))) := by
  obtain ⟨a, cap, rfl, hm, _⟩ := h
  unfold maxLen at hm
  by_cases hc : (xs.length : Int) ≤ left
  · rw [if_pos hc]
    go_enter Try.func32, Try.ntmps32
    go_wp2
    go_ret
    exact ⟨rfl, rfl⟩
  · rw [if_neg hc]
    have hlt : left < (xs.length : Int) := by omega
    clear hc
    go_enter Try.func32, Try.ntmps32
    go_wp2
    go_ret
    exact ⟨rfl, rfl⟩

set_option maxHeartbeats 800000 in
set_option maxRecDepth 100000 in
theorem sz2_any (w : World) (v : Value) (rows : List (List Int)) (left : Int) (h : In2 w v rows) (h0 : 0 ≤ left) (h1 : left ≤ 1048576) :
    Calls Try.prog 33 #[v, .int .i64 left] w (fun e w' => e = .returned (.int .i64 (if ((rows.length + offR rows rows.length : Nat) : Int) ≤ left then left - ((rows.length + offR rows rows.length : Nat) : Int) else -1)) ∧ Below w.heap.size w w') := by
  obtain ⟨a, cap, rfl, hm, hc⟩ := h
  unfold maxLen at hm
  have HC := Lib.hid hc; clear hc
  have HMONO := Lib.hid (offR_mono rows)
  by_cases hlen : (rows.length : Int) ≤ left
  · obtain ⟨res, hres⟩ : ∃ res, res = (if ((rows.length + offR rows rows.length : Nat) : Int) ≤ left then left - ((rows.length + offR rows rows.length : Nat) : Int) else -1) := ⟨_, rfl⟩
    rw [← hres]
    have HRES := Lib.hid hres; clear hres
    go_enter Try.func33, Try.ntmps33
    go_wp2
    go_loopw [1, 5] (fun c i wr => ∃ k : Nat, k ≤ rows.length ∧ i = .int .i64 k ∧ c = .int .i64 (left - rows.length - (offR rows k : Int)) ∧ (offR rows k : Int) ≤ left - rows.length ∧ Below w.heap.size w wr) (fun _ i _ => rows.length - (intOf i).toNat)
    case atStart => exact ⟨0, Nat.zero_le _, rfl, by simp [offR], by simp [offR]; omega, Below.refl _ _⟩
    case round =>
      obtain ⟨k, hk, rfl, rfl, hle, hbel⟩ := hrel
      by_cases hlt : k < rows.length
      · obtain ⟨b, off, rfl, hb, hcell⟩ := HC.out k hlt
        obtain ⟨u, hu1, hu2⟩ := hcell k hlt
        have c1 : wr.cell? ⟨b, off + k, none⟩ = some u := (hbel.cell (p := ⟨b, off + k, none⟩) hb).trans hu1
        have hin := in_below hbel hu2
        have hoff : offR rows (k + 1) = offR rows k + (rows.getD k []).length := rfl
        have hmm := HMONO.out (k + 1) rows.length (by omega)
        obtain ⟨r, hr⟩ : ∃ r, r = rows.getD k [] := ⟨_, rfl⟩
        rw [← hr] at hin hoff
        obtain ⟨n, hn⟩ : ∃ n, n = offR rows k := ⟨_, rfl⟩
        rw [← hn] at hoff hle
        rw [← hn]
        have hrl : (r.length : Int) ≤ 9223372036854775807 := by
          obtain ⟨_, _, _, h3, _⟩ := hin
          unfold maxLen at h3; omega
        by_cases hfit : (r.length : Int) ≤ left - rows.length - n
        · skip
          have HOFF := Lib.hid hoff; clear hoff hr hn hmm hcell hu1 hu2
          go_wp2_with fail
          refine (sz_any _ _ r (left - rows.length - (n : Int)) hin (by omega) (by omega)).mono ?_; rw [if_pos (by omega)]; rintro e w1 ⟨rfl, rfl⟩
          go_wp2
          go_roundw
          case rel => exact ⟨k + 1, by omega, by go_num, by rw [HOFF.out]; go_num, by rw [HOFF.out]; omega, hbel⟩
          case measure => simp [intOf]; omega
        · have hrr : res = -1 := by rw [HRES.out, if_neg (by omega)]
          subst hrr
          have hfit2 : left - rows.length - (n : Int) < (r.length : Int) := by omega
          clear hoff hr hn hmm hcell hu1 hu2 hfit
          go_wp2_with fail
          refine (sz_any _ _ r (left - rows.length - (n : Int)) hin (by omega) (by omega)).mono ?_; rw [if_neg (by omega)]; rintro e w1 ⟨rfl, rfl⟩
          go_wp2
          go_ret
          exact ⟨rfl, hbel⟩
      · obtain rfl : k = rows.length := by omega
        have hrr : res = left - rows.length - (offR rows rows.length : Int) := by rw [HRES.out, if_pos (by omega)]; omega
        subst hrr
        go_wp2
        go_ret
        exact ⟨rfl, hbel⟩
  · rw [if_neg (by omega)]
    have hlt : left < (rows.length : Int) := by omega
    clear hlen
    go_enter Try.func33, Try.ntmps33
    go_wp2
    go_ret
    exact ⟨rfl, Below.refl _ _⟩

def pairsB (n : Int) (ps : List (List Int)) : Bool := ps.all fun r => decide (r.length = 2) && decide (AllP n r)
def PairsP (n : Int) (ps : List (List Int)) : Prop := ∀ r ∈ ps, r.length = 2 ∧ AllP n r
instance (n : Int) (ps : List (List Int)) : Decidable (PairsP n ps) := inferInstanceAs (Decidable (∀ r ∈ ps, _))
def fJoinPairs (n : Int) (ps : List (List Int)) : List Int × Int :=
  if SizeP n then (if PairsP n ps then (clsOf (implL n.toNat ps), 0) else ([], 1)) else ([], 2)

theorem row_mem {ps : List (List Int)} {k : Nat} (hk : k < ps.length) : ps.getD k [] ∈ ps := by
  rw [List.getD_eq_getElem?_getD, List.getElem?_eq_getElem hk]; exact List.getElem_mem hk

theorem rows_all {ps : List (List Int)} {q : List Int → Prop} (h : ∀ j, j < ps.length → q (ps.getD j [])) : ∀ r ∈ ps, q r := fun r hr => by
  obtain ⟨j, hj, rfl⟩ := List.getElem_of_mem hr
  have := h j hj
  simpa [List.getD_eq_getElem?_getD, List.getElem?_eq_getElem hj] using this

set_option maxHeartbeats 800000 in
set_option maxRecDepth 100000 in
theorem impl_JoinPairs (w : World) (n : Int) (v : Value) (ps : List (List Int)) (h : Rd2 w v ps) :
    Calls Try.prog 30 #[.int .i64 n, v] w (RetLI w (fJoinPairs n ps).1 (fJoinPairs n ps).2) := by
  unfold fJoinPairs
  have R := h
  obtain ⟨a, cap, rfl, hl, hc⟩ := h
  have HC := Lib.hid hc; clear hc
  by_cases hn : SizeP n
  · rw [if_pos hn]
    have D := Lib.hid (decide_eq_true hn)
    have HN := Lib.hid hn
    obtain ⟨m, hm⟩ := Int.eq_ofNat_of_zero_le hn.1
    have hm2 := hn.2
    subst hm
    rw [Int.toNat_natCast]
    clear hn
    obtain ⟨r, hr⟩ : ∃ r, r = (if PairsP (m : Int) ps then (clsOf (implL m ps), (0 : Int)) else ([], 1)) := ⟨_, rfl⟩
    rw [← hr]
    have HR := Lib.hid hr; clear hr
    go_enter Try.func30, Try.ntmps30
    go_wp2_with fail
    refine (implSize_any _ _ true D.out).mono ?_; rintro e w1 ⟨rfl, rfl⟩
    go_wp2_with fail
    refine (newLeaders_any _ m (by omega)).mono ?_; rintro e w2 ⟨gl, rfl, hlead0, hb2⟩
    have HL0 := Lib.hid hlead0; clear hlead0
    go_wp2
    go_loopw [16] (fun i wr => ∃ k : Nat, k ≤ ps.length ∧ i = .int .i64 k ∧ Hid (∀ j, j < k → (ps.getD j []).length = 2 ∧ AllP m (ps.getD j [])) ∧ Lead wr w.heap.size (.slice (some ⟨gl, 0, none⟩) m m) (implL m (ps.take k)) ∧ Below w.heap.size w wr) (fun i _ => ps.length - (intOf i).toNat)
    case atStart => exact ⟨0, Nat.zero_le _, rfl, fun j hj => absurd hj (by omega), by simpa [implL] using HL0.out, hb2⟩
    case round =>
      obtain ⟨k, hk, rfl, hall, hlead, hbel⟩ := hrel
      by_cases hlt : k < ps.length
      · obtain ⟨b, off, rfl, hb, hcell⟩ := HC.out k hlt
        obtain ⟨u, hu1, hu2⟩ := hcell k hlt
        have hmem := row_mem hlt
        have Ru := rd_below hbel hu2
        have hu3 := hu2
        obtain ⟨ra, rc, rfl, _, hrc⟩ := hu2
        have c1 : wr.cell? ⟨b, off + k, none⟩ = some (.slice ra (ps.getD k []).length rc) := (hbel.cell (p := ⟨b, off + k, none⟩) hb).trans hu1
        have htk : ps.take (k + 1) = ps.take k ++ [ps.getD k []] := by
          rw [List.take_succ_eq_append_getElem hlt]; simp [List.getD_eq_getElem?_getD, List.getElem?_eq_getElem hlt]
        have hstep := implL_snoc m (ps.take k) (ps.getD k [])
        rw [← htk] at hstep
        have hRl := implL_len m (ps.take k)
        obtain ⟨row, hrow⟩ : ∃ row, row = ps.getD k [] := ⟨_, rfl⟩
        rw [← hrow] at c1 Ru hmem hrc hstep
        obtain ⟨Rk, hRk⟩ : ∃ Rk, Rk = implL m (ps.take k) := ⟨_, rfl⟩
        rw [← hRk] at hlead hstep hRl
        have HROW := Lib.hid hrow; have HMEM := Lib.hid hmem; have HST := Lib.hid hstep; have HRL := Lib.hid hRl; have HRC := Lib.hid hrc
        have HLEAD := Lib.hid hlead
        clear hrow hmem hcell hu1 hstep hRl hRk htk hrc hu3 hlead
        by_cases h2 : row.length = 2
        · have e1 : ((row.length : Int) != 2) = false := by simp [h2]
          have H2 := Lib.hid h2
          by_cases ha : AllP m row
          · have hmp : MapP m row := ⟨HN.out, by omega, ha⟩
            have hpr := pair_range (n := m) (r := row) ⟨h2, ha⟩
            have E := Lib.hid (decide_eq_true hmp); have HA := Lib.hid ha; have HPR := Lib.hid hpr; clear ha hmp hpr
            obtain ⟨rb, ro, rfl, hrb, hrcell⟩ := HRC.out 0 (by omega)
            obtain ⟨h0, h1, h3, h4⟩ := HPR.out
            obtain ⟨p, hp⟩ := Int.eq_ofNat_of_zero_le h3
            obtain ⟨q, hq⟩ := Int.eq_ofNat_of_zero_le h4
            have hst2 := HST.out
            unfold implStep at hst2
            rw [hp, hq, Int.toNat_natCast, Int.toNat_natCast] at hst2
            rw [hp] at h0
            rw [hq] at h1
            rw [Int.toNat_natCast] at h0 h1
            have q1 := hrcell 0 (by omega)
            have q2 := hrcell 1 (by omega)
            rw [hp] at q1
            rw [hq] at q2
            simp only [Nat.add_zero] at q1
            have HST2 := Lib.hid hst2; have Q1 := Lib.hid q1; have Q2 := Lib.hid q2
            clear hst2 hp hq h3 h4 q1 q2 hrcell h2
            have hr2 := Nat.le_of_eq H2.out
            have hr2' := Nat.le_of_eq H2.out.symm
            go_wp2_with fail
            refine (implIsMap_any _ _ _ row true Ru E.out).mono ?_; rintro e w3 ⟨rfl, hb3⟩
            have hbel3 := hbel.trans (hb3.mono hbel.size)
            have d1 : w3.cell? ⟨rb, ro, none⟩ = some (.int .i64 (p : Int)) := (hbel3.cell (p := ⟨rb, ro, none⟩) hrb).trans Q1.out
            have d2 : w3.cell? ⟨rb, ro + 1, none⟩ = some (.int .i64 (q : Int)) := (hbel3.cell (p := ⟨rb, ro + 1, none⟩) hrb).trans Q2.out
            have HL3 := Lib.hid (lead_below hb3 HLEAD.out)
            have i1 : (0 : Int) < (row.length : Int) := by omega
            have i2 : (1 : Int) < (row.length : Int) := by omega
            have i3 : 0 < row.length := by omega
            have i4 : 1 < row.length := by omega
            clear c1 hb3 hbel
            go_wp2
            go_still_tail 7, (by kernel_rfl)
            change wpList _ _ _ _ _ w3.drew
            have hlead3 : Lead w3.drew w.heap.size (.slice (some ⟨gl, 0, none⟩) m m) Rk := lead_below (Below.refl w3.heap.size w3).drew HL3.out
            have hb4 := hbel3.drew
            clear d1 d2 hbel3
            generalize w3.drew = w4 at hlead3 hb4 ⊢
            go_wp2_with fail
            refine (join_any _ w.heap.size _ Rk p q hlead3 (by rw [HRL.out]; exact h0) (by rw [HRL.out]; exact h1)).mono ?_
            rintro e w5 ⟨rfl, hlead5, hg5⟩
            go_wp2
            go_roundw
            case rel =>
              refine ⟨k + 1, by omega, by go_num, fun j hj => ?_, by rw [HST2.out]; exact hlead5, hb4.grown hg5 hb4.size fun j hj => (lead_lt hlead3 j hj).1⟩
              by_cases hjk : j = k
              · rw [hjk, ← HROW.out]; exact ⟨H2.out, HA.out⟩
              · exact hall.out j (by omega)
            case measure => simp [intOf]; omega
          · have hrr : r = ([], 1) := by rw [HR.out, if_neg (fun hp => ha (hp _ HMEM.out).2)]
            subst hrr
            have E := Lib.hid (decide_eq_false (p := MapP m row) (fun hm => ha hm.2.2)); clear ha h2
            go_wp2_with fail
            refine (implIsMap_any _ _ _ row false Ru E.out).mono ?_; rintro e w3 ⟨rfl, hb3⟩
            go_wp2
            go_ret2
            exact ⟨_, rfl, Sl.nil _ _, hbel.trans (hb3.mono hbel.size)⟩
        · have hrr : r = ([], 1) := by rw [HR.out, if_neg (fun hp => h2 (hp _ HMEM.out).1)]
          subst hrr
          have e1 : ((row.length : Int) != 2) = true := by rw [bne_iff_ne]; omega
          clear h2
          go_wp2
          go_ret2
          exact ⟨_, rfl, Sl.nil _ _, hbel⟩
      · obtain rfl : k = ps.length := by omega
        have hp : PairsP (m : Int) ps := rows_all hall.out
        have hrr : r = (clsOf (implL m ps), 0) := by rw [HR.out, if_pos hp]
        subst hrr
        rw [List.take_length] at hlead
        clear hp
        go_wp2_with fail
        refine (classes_any _ w.heap.size _ _ hlead).mono ?_; rintro e w3 ⟨y, rfl, hs3, hb3⟩
        go_wp2
        go_ret2
        exact ⟨_, rfl, hs3.mono hbel.size, hb3 w hbel (Nat.le_refl _)⟩
  · rw [if_neg hn]
    have D := Lib.hid (decide_eq_false hn); clear hn
    go_enter Try.func30, Try.ntmps30
    go_wp2_with fail
    refine (implSize_any _ _ false D.out).mono ?_; rintro e w1 ⟨rfl, rfl⟩
    go_wp2
    go_ret2
    exact ⟨_, rfl, Sl.nil _ _, Below.refl _ _⟩

end Go.Proofs.Ytgkfampgofjkfaa
