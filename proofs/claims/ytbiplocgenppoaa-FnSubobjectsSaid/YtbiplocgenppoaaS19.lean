import Derived.Test.YtbiplocgenppoaaS4
import Derived.Test.YtbiplocgenppoaaS16
import Derived.Test.YtbiplocgenppoaaS18
set_option maxHeartbeats 4000000
set_option maxRecDepth 100000
set_option linter.unusedSimpArgs false
set_option linter.unusedVariables false
set_option linter.unusedSectionVars false
namespace Go.Proofs.Ytbiplocgenppoaa
open _root_.Go.Proofs.Try
open Go.RowKit
theorem rw_set {out : List (List Int)} {l : List Int} {i j : Nat} (hi : i < out.length) : row2 (out.set i l) (j : Int) = if i = j then l else row2 out (j : Int) := by
 unfold row2; rw [Int.toNat_natCast, List.getD_eq_getElem?_getD, List.getElem?_set]
 by_cases h : i = j
 ·subst h; simp [hi]
 simp [h]
theorem rw_app {out : List (List Int)} {l : List Int} {i : Nat} (h : i < out.length) : row2 (out ++ [l]) (i : Int) = row2 out (i : Int) := by
 unfold row2; rw [Int.toNat_natCast, List.getD_eq_getElem?_getD, List.getD_eq_getElem?_getD, List.getElem?_append_left h]
theorem rw_new {out : List (List Int)} {l : List Int} : row2 (out ++ [l]) (out.length : Int) = l := by
 unfold row2; rw [Int.toNat_natCast, List.getD_eq_getElem?_getD, List.getElem?_append_right (Nat.le_refl _)]; simp
theorem ls_set {l : List Int} {z : Int} {i j : Nat} (hi : i < l.length) : at0 (l.set i z) (j : Int) = if i = j then z else at0 l (j : Int) := by
 rw [at0_nat, at0_nat, List.getD_eq_getElem?_getD, List.getElem?_set]
 by_cases h : i = j
 ·subst h; simp [hi]
 simp [h]
structure RowO (n i : Nat) (r : List Int) : Prop where
 len : r.length = n
 bit : AllP 2 r
 one : at0 r (i : Int) = 1
theorem rowO_set {n i : Nat} {r : List Int} (h : RowO n i r) {j : Nat} (hj : j < n) {z : Int} (hz : z = 1 ∨ (j ≠ i ∧ 0 ≤ z ∧ z < 2)) : RowO n i (r.set j z) where
 len := by rw [List.length_set]; exact h.len
 bit := fun x hx => by
  rcases List.mem_or_eq_of_mem_set hx with hx | rfl
  ·exact h.bit x hx
  omega
 one := by
  rw [ls_set (by rw [h.len]; exact hj)]
  split
  ·omega
  exact h.one
theorem rowO_first {n i : Nat} (hi : i < n) : RowO n i ((List.replicate n (0 : Int)).set i 1) where
 len := by simp
 bit := fun x hx => by
  rcases List.mem_or_eq_of_mem_set hx with hx | rfl
  ·rw [List.eq_of_mem_replicate hx]; omega
  omega
 one := by rw [ls_set (by simpa using hi), if_pos rfl]
def RowsO (n : Nat) (rows : List (List Int)) (k : Nat) : Prop := rows.length = k ∧ ∀ i : Nat, i < k → RowO n i (row2 rows (i : Int))
theorem rowsO_app {n k : Nat} {rows : List (List Int)} {r : List Int} (h : RowsO n rows k) (hr : RowO n k r) : RowsO n (rows ++ [r]) (k + 1) := by
 obtain ⟨h1, h2⟩ := h
 refine ⟨by simp [h1], fun i hi => ?_⟩
 rcases Nat.lt_or_ge i k with h | h
 ·rw [rw_app (by omega)]; exact h2 i h
 obtain rfl : i = k := by omega
 subst h1; rw [rw_new]; exact hr
theorem rowsO_set {n : Nat} {rows : List (List Int)} (h : RowsO n rows n) {i j : Nat} (hi : i < n) (hj : j < n) : RowsO n (rows.set i ((row2 rows (i : Int)).set j 1)) n := by
 obtain ⟨h1, h2⟩ := h
 refine ⟨by simp [h1], fun a ha => ?_⟩
 rw [rw_set (by omega)]
 split
 ·rename_i e; subst e; exact rowO_set (h2 i ha) hj (.inl rfl)
 exact h2 a ha
def relN (n : Nat) (rows : List (List Int)) (i j : Nat) : Prop := i < n ∧ j < n ∧ at0 (row2 rows (i : Int)) (j : Int) = 1
theorem relN_set {n : Nat} {rows : List (List Int)} (h : RowsO n rows n) {i j : Nat} (hi : i < n) (hj : j < n) (a b : Nat) : relN n (rows.set i ((row2 rows (i : Int)).set j 1)) a b ↔ relN n rows a b ∨ (a = i ∧ b = j) := by
 obtain ⟨h1, h2⟩ := h
 unfold relN
 rw [rw_set (by omega)]
 by_cases e : i = a
 ·subst e
  rw [if_pos rfl, ls_set (by rw [(h2 i hi).len]; exact hj)]
  by_cases e2 : j = b
  ·subst e2; simp [hi, hj]
  rw [if_neg e2]
  constructor
  ·exact .inl
  rintro (h | ⟨_, rfl⟩)
  ·exact h
  exact absurd rfl e2
 rw [if_neg e]
 constructor
 ·exact .inl
 rintro (h | ⟨rfl, _⟩)
 ·exact h
 exact absurd rfl e
def InvW (n : Nat) (r0 rows : List (List Int)) (k i j : Nat) : Prop := RowsO n rows n ∧ ∀ a b, relN n rows a b ↔ relN n r0 a b ∨ ((a < i ∨ a = i ∧ b < j) ∧ relN n r0 a k ∧ relN n r0 k b)
theorem invW_zero {n : Nat} {r0 : List (List Int)} (h : RowsO n r0 n) (k : Nat) : InvW n r0 r0 k 0 0 := ⟨h, fun a b => ⟨.inl, fun h => h.elim id fun h => by omega⟩⟩
theorem invW_row {n : Nat} {r0 rows : List (List Int)} {k i : Nat} (h : InvW n r0 rows k i n) : InvW n r0 rows k (i + 1) 0 := ⟨h.1, fun a b => (h.2 a b).trans ⟨fun h => h.imp id fun ⟨h1, h2⟩ => ⟨by omega, h2⟩, fun h => h.imp id fun ⟨h1, h2⟩ => ⟨by have := h2.2.2.1; omega, h2⟩⟩⟩
theorem invW_at {n : Nat} {r0 rows : List (List Int)} {k i j : Nat} (h : InvW n r0 rows k i j) : (relN n rows i k ↔ relN n r0 i k) ∧ (relN n rows k j ↔ relN n r0 k j) := by
 have := war_in (R := relN n r0) (Q := relN n rows) (D := fun a b => a < i ∨ a = i ∧ b < j) (k := k) h.2
 exact ⟨this.1 i, this.2 j⟩
theorem invW_t {n : Nat} {r0 rows : List (List Int)} {k i j : Nat} (h : InvW n r0 rows k i j) (hk : k < n) (hi : i < n) (hj : j < n) (h1 : at0 (row2 rows (i : Int)) (k : Int) = 1) (h2 : at0 (row2 rows (k : Int)) (j : Int) = 1) : InvW n r0 (rows.set i ((row2 rows (i : Int)).set j 1)) k i (j + 1) := by
 have hc := invW_at h
 have e1 : relN n r0 i k := hc.1.1 ⟨hi, hk, h1⟩
 have e2 : relN n r0 k j := hc.2.1 ⟨hk, hj, h2⟩
 refine ⟨rowsO_set h.1 hi hj, fun a b => ?_⟩
 rw [relN_set h.1 hi hj, h.2 a b]
 constructor
 ·rintro ((h3 | ⟨h3, h4⟩) | ⟨rfl, rfl⟩)
  ·exact .inl h3
  ·exact .inr ⟨by omega, h4⟩
  exact .inr ⟨by omega, e1, e2⟩
 rintro (h3 | ⟨h3, h4⟩)
 ·exact .inl (.inl h3)
 by_cases e : a = i ∧ b = j
 ·exact .inr e
 exact .inl (.inr ⟨by omega, h4⟩)
theorem invW_f {n : Nat} {r0 rows : List (List Int)} {k i j : Nat} (h : InvW n r0 rows k i j) (hk : k < n) (hi : i < n) (hj : j < n) (hn : ¬ (at0 (row2 rows (i : Int)) (k : Int) = 1 ∧ at0 (row2 rows (k : Int)) (j : Int) = 1)) : InvW n r0 rows k i (j + 1) := by
 have hc := invW_at h
 refine ⟨h.1, fun a b => ?_⟩
 rw [h.2 a b]
 constructor
 ·rintro (h3 | ⟨h3, h4⟩)
  ·exact .inl h3
  exact .inr ⟨by omega, h4⟩
 rintro (h3 | ⟨h3, h4⟩)
 ·exact .inl h3
 by_cases e : a = i ∧ b = j
 ·obtain ⟨rfl, rfl⟩ := e
  exact absurd ⟨(hc.1.2 h4.1).2.2, (hc.2.2 h4.2).2.2⟩ hn
 exact .inr ⟨by omega, h4⟩
theorem invW_end {n : Nat} {r0 rows : List (List Int)} {k : Nat} (h : InvW n r0 rows k n 0) (hW : WarP (relN n r0) k) : RowsO n rows n ∧ WarP (relN n rows) (k + 1) :=
 ⟨h.1, war_step hW fun a b => (h.2 a b).trans ⟨fun h => h.imp id fun h => h.2, fun h => h.imp id fun h => ⟨by have := h.1.1; omega, h⟩⟩⟩
theorem rowsO_last {n r : Nat} {rows : List (List Int)} (h : RowsO n rows n) (hn : 0 < n) (hr : r < n) : RowsO n (rows.set ((n : Int) - 1).toNat ((row2 rows ((n : Int) - 1)).set ((r : Nat) : Int).toNat 1)) n := by
 rw [show (n : Int) - 1 = ((n - 1 : Nat) : Int) from by omega, Int.toNat_natCast, Int.toNat_natCast]
 exact rowsO_set h (by omega) hr
theorem pre_end {n : Nat} {rows : List (List Int)} (h : RowsO n rows n) (hW : WarP (relN n rows) n) : PreP rows ∧ SquareP rows 2 ∧ rows.length = n := by
 obtain ⟨h1, h2⟩ := h
 refine ⟨preP_war (fun i hi => (h2 i (by omega)).one) ?_, fun i hi => ⟨by rw [(h2 i (by omega)).len, h1], (h2 i (by omega)).bit⟩, h1⟩
 rw [h1]; exact hW
theorem specRel_any (w0 w : World) (ca : Option Addr) (cl cc g : Nat) (F : List Itm) (hI : InB w0 (.slice ca cl cc)) (n : Nat) (hn : n ≤ 8) (M : Mem w0 w [srcI ca cl cc g, tailI F]) :
  Calls Try.prog 96 #[.pointer (some ⟨g, 0, none⟩), .int .i64 (n : Int)] w (RetM w0 (srcI ca cl cc g) F (fun x : List (List Int) × Option Addr × Nat × List Value => PreP x.1 ∧ SquareP x.1 2 ∧ x.1.length = n) (fun x => .slice x.2.1 x.1.length x.2.2.1) (fun x => [own2U (.slice x.2.1 x.1.length x.2.2.1) x.2.2.2 x.1])) := by
 go_enter func96, Try.ntmps96
 refine gc_enterM M (N := 95) rfl (look_cons (k := 0) rfl (look_cons (k := 1) rfl (look_nil _))) ?_
 clear M
 refine gc_sr fun K1 hK1 => ?_
 refine gas ?_
 refine gnt (hK1 _ _ ?_)
 refine gc_sr fun K2 hK2 => ?_
 refine gop fun K4 hK4 => ?_
 refine go_sliceR0 rfl rfl rfl underlying25 ?_
 intro B3
 refine hK4 _ _ ?_
 refine gas ?_
 refine gnt (hK2 _ _ ?_)
 refine gc_seq fun K5 hK5 => ?_
 refine gc_sr fun K6 hK6 => ?_
 refine gas ?_
 refine gnt (hK6 _ _ ?_)
 refine gc_block ?_
 try simp only [sL]
 refine gc_loopT ([(0, _), (1, _), (4, _)] : Env) (fun s : Nat × (Option Addr) × Nat × (List Value) × (List (List Int)) => (fun (k : Nat) (a : Option Addr) (q : Nat) (us : List Value) (rows : List (List Int)) => (([(5, .slice a rows.length q), (6, .int .i64 (k : Int))] : Env), ([(2, own2U (.slice a rows.length q) us rows)] : List (Nat × Itm)), k ≤ n ∧ RowsO n rows k, n - k)) s.1 s.2.1 s.2.2.1 s.2.2.2.1 s.2.2.2.2) (0, _, _, _, []) (by repeat first | exact sub_nil | refine sub_cons rfl ?_) rfl ⟨Nat.zero_le _, rfl, fun i hi => absurd hi (by omega)⟩ ?_
 rintro ⟨k, a, q, us, rows⟩ hinv KL7 hKL7
 simp only [sU, sL] at hinv hKL7 ⊢
 obtain ⟨hk, hro⟩ := hinv
 have hrl := hro.1
 refine gc_seq fun K8 hK8 => ?_
 refine gc_sr fun K9 hK9 => ?_
 refine gm ?_
 refine gm ?_
 refine gv (qt_lss rfl rfl rfl) ?_
 refine gnt (hK9 _ _ ?_)
 refine gc_cond rfl (fun hc0 => ?_) (fun hc0 => ?_)
 ·try simp only [sA] at hc0
  refine gc_skip ?_
  refine gk_then (hK8 _ _ ?_)
  refine gc_seq fun K10 hK10 => ?_
  refine gc_block ?_
  refine gc_sr fun K11 hK11 => ?_
  refine gm ?_
  refine gop fun K13 hK13 => ?_
  refine go_make1 rfl rfl rfl underlying24 rfl rfl (by omega) ?_
  intro B12
  refine hK13 _ _ ?_
  refine gas ?_
  refine gnt (hK11 _ _ ?_)
  refine gc_seq fun K14 hK14 => ?_
  have hrep : (List.replicate n (0 : Int)).length = n := by simp
  refine gc_region ?_
  refine gm ?_
  refine gm ?_
  refine gv (qti (fun w M => lenA_own1 (n := 3) rfl M)) ?_
  refine gop fun K15 hK15 => ?_
  refine go_store1 (n := 3) rfl rfl rfl rfl (by kernel_rfl) rfl (by omega) (by omega) ?_
  refine hK15 _ _ ?_
  refine gnt (hK14 _ _ ?_)
  refine gc_seq fun K16 hK16 => ?_
  refine gc_sr fun K17 hK17 => ?_
  refine gm ?_
  refine gv (qt_add rfl rfl rfl (by omega)) ?_
  refine gas ?_
  refine gnt (hK17 _ _ ?_)
  refine gc_block ?_
  try simp only [sL]
  refine gc_loopT ([(0, _), (1, _), (4, _), (5, _), (6, _), (7, _), (15, _)] : Env) (fun s : Nat × (List Int) => (fun (l : Nat) (row : List Int) => (([(8, .int .i64 (l : Int))] : Env), ([(3, own1I (.slice (some ⟨B12, 0, none⟩) n n) row)] : List (Nat × Itm)), k + 1 ≤ l ∧ l ≤ n ∧ RowO n k row, n - l)) s.1 s.2) (k + 1, _) (by repeat first | exact sub_nil | refine sub_cons rfl ?_) rfl ⟨Nat.le_refl _, by omega, rowO_first (by omega)⟩ ?_
  rintro ⟨l, row⟩ hinv KL18 hKL18
  simp only [sU, sL] at hinv hKL18 ⊢
  obtain ⟨hl0, hl1, hrow⟩ := hinv
  have hrn := hrow.len
  refine gc_seq fun K19 hK19 => ?_
  refine gc_sr fun K20 hK20 => ?_
  refine gm ?_
  refine gm ?_
  refine gv (qt_lss rfl rfl rfl) ?_
  refine gnt (hK20 _ _ ?_)
  refine gc_cond rfl (fun hc1 => ?_) (fun hc1 => ?_)
  ·try simp only [sA] at hc1
   refine gc_skip ?_
   refine gk_then (hK19 _ _ ?_)
   refine gc_seq fun K21 hK21 => ?_
   refine gc_block ?_
   refine gc_region ?_
   refine gm ?_
   refine gm ?_
   refine gm ?_
   refine gop fun K23 hK23 => ?_
   refine go_srcNext (n := 0) rfl rfl rfl func51 rfl (by decide) rfl hI rfl (by omega) ?_
   intro r22 hs22
   refine hK23 _ _ ?_
   refine gv (qti (fun w M => lenA_own1 (n := 3) rfl M)) ?_
   refine gop fun K24 hK24 => ?_
   refine go_store1 (n := 3) rfl rfl rfl rfl (by kernel_rfl) rfl (by omega) (by omega) ?_
   refine hK24 _ _ ?_
   refine g_nil ?_
   refine gk_block ?_
   refine gk_then (hK21 _ _ ?_)
   refine gc_region ?_
   refine gm ?_
   refine gv (qt_add rfl rfl rfl (by omega)) ?_
   refine gas ?_
   refine g_nil ?_
   refine gk_then (gk_take 4 ?_)
   refine gk_sub ?hs_25 (hKL18 (l + 1, _) ?hi_25 ?hm_25)
   case hs_25 => repeat first | exact sub_nil | refine sub_cons rfl ?_
   case hi_25 => exact ⟨by omega, by omega, rowO_set hrow (by omega) (.inr ⟨by omega, by omega, by omega⟩)⟩
   case hm_25 => omega
  try simp only [sA] at hc1
  refine gc_exit ?_
  refine gk_then_exit ?_
  refine gk_then_exit ?_
  refine gk_block_hit ?_
  refine gk_then (hK16 _ _ ?_)
  refine gc_region ?_
  refine gm ?_
  refine gm ?_
  refine gop fun K27 hK27 => ?_
  refine go_sliceR1 (m := 3) rfl rfl rfl rfl underlying25 rfl ?_
  intro B26
  refine hK27 _ _ ?_
  refine gop fun K29 hK29 => ?_
  refine go_appendRow (n := 2) (m := 3) (m' := 2) rfl rfl rfl underlying25 rfl rfl rfl rfl rfl (by omega) ?_
  intro va28 vc28
  refine hK29 _ _ ?_
  refine gas ?_
  refine g_nil ?_
  refine gk_block ?_
  refine gk_then (hK10 _ _ ?_)
  refine gc_region ?_
  refine gm ?_
  refine gv (qt_add rfl rfl rfl (by omega)) ?_
  refine gas ?_
  refine g_nil ?_
  obtain rfl : n = l := by omega
  refine gk_then (gk_take 3 ?_)
  refine gk_sub ?hs_30 (hKL7 (k + 1, _, _, _, _) ?hi_30 ?hm_30)
  case hs_30 => repeat first | exact sub_nil | refine sub_cons rfl ?_
  case hi_30 => exact ⟨by omega, rowsO_app hro hrow⟩
  case hm_30 => omega
 try simp only [sA] at hc0
 refine gc_exit ?_
 refine gk_then_exit ?_
 refine gk_then_exit ?_
 refine gk_block_hit ?_
 refine gk_then (hK5 _ _ ?_)
 refine gc_seq fun K31 hK31 => ?_
 refine gc_seq fun K32 hK32 => ?_
 obtain rfl : n = k := by omega
 have hrl2 := hro.1
 rw [hrl2]
 refine gc_region ?_
 refine gm ?_
 refine gv (qt_gtr rfl rfl rfl) ?_
 refine g_splitv (.free rfl) rfl rfl (qt_move rfl rfl) (fun hs12_2 => ?_) (fun hs12_2 => ?_)
 ·try simp only [sA] at hs12_2
  refine gvh (qt_move rfl rfl) ?_
  refine g_op (.held _ _ _ rfl rfl rfl) fun K34 hK34 => ?_
  refine go_srcNext (n := 0) rfl rfl rfl func51 rfl (by decide) rfl hI rfl (by omega) ?_
  intro r33 hs33
  refine hK34 _ _ ?_
  refine gvh (qt_eql rfl rfl rfl) ?_
  refine gv (qt_pick_t rfl rfl rfl) ?_
  refine gnt (hK32 _ _ ?_)
  refine gc_cond rfl (fun hc2 => ?_) (fun hc2 => ?_)
  ·try simp only [sA] at hc2
   have hlast : (row2 rows ((n : Int) - 1)).length = n := by rw [show (n : Int) - 1 = ((n - 1 : Nat) : Int) from by omega]; exact (hro.2 (n - 1) (by omega)).len
   try simp only [sL]
   refine ga_start _ (fun w M => mem_erase 0 (mem_erase 2 (M))) ?_
   refine gav 0 rfl (qt_move rfl rfl) ?_
   refine gav 1 rfl (qt_move rfl rfl) ?_
   refine gav 2 rfl (qt_sub rfl rfl rfl (by omega)) ?_
   refine gav 5 rfl (qt_move rfl rfl) ?_
   refine gav 6 rfl (qt_move rfl rfl) ?_
   refine gat 3 7 (fun K35 hK35 => ?_) (fun K35 hK35 => ?_)
   ·refine gov (qti2 (fun w M => lenA_U (n := 2) rfl M)) ?_
    refine hK35 _ _ (fun w M => (ms0 0 2 3 M :)) ?_
    refine gat 4 7 (fun K37 hK37 => ?_) (fun K37 hK37 => ?_)
    ·refine gov (qt_loadU (n := 2) rfl rfl underlying24 rfl rfl (by omega) (by omega)) ?_
     refine hK37 _ _ (fun w M => (ms0 0 2 3 M :)) ?_
     refine gao 7 fun K40 hK40 => ?_
     refine go_srcNext (n := 0) rfl rfl rfl func51 rfl (by decide) rfl hI rfl (by omega) ?_
     intro r39 hs39
     refine hK40 _ _ (fun w M => (ms0 0 2 3 M :)) ?_
     refine gao 8 fun K41 hK41 => ?_
     refine gov (qt_index rfl rfl rfl ulE1 szE1 (fun w M => lenA_row (n := 2) rfl (by omega) (by omega) M) (by omega) (by omega)) ?_
     refine hK41 _ _ (fun w M => (ms0 0 2 3 M :)) ?_
     refine gao 9 fun K42 hK42 => ?_
     refine go_storeU (n := 2) rfl rfl rfl rfl (by kernel_rfl) rfl (by omega) (by omega) (by omega) (by omega) ?_
     refine hK42 _ _ (fun w M => (ms0 0 2 3 M :)) ?_
     refine ga_done (by kernel_rfl) ?_
     refine gk_then (hK31 _ _ ?_)
     refine gc_seq fun K43 hK43 => ?_
     refine gc_sr fun K44 hK44 => ?_
     refine gas ?_
     refine gnt (hK44 _ _ ?_)
     refine gc_block ?_
     try simp only [sL]
     refine gc_loopT ([(0, _), (1, _), (4, _), (5, _), (6, _), (15, _), (45, _)] : Env) (fun s : Nat × (List Value) × (List (List Int)) => (fun (k2 : Nat) (us2 : List Value) (rows2 : List (List Int)) => (([(9, .int .i64 (k2 : Int))] : Env), ([(2, own2U (.slice a n q) us2 rows2)] : List (Nat × Itm)), k2 ≤ n ∧ RowsO n rows2 n ∧ WarP (relN n rows2) k2, n - k2)) s.1 s.2.1 s.2.2) (0, _, _) (by repeat first | exact sub_nil | refine sub_cons rfl ?_) rfl (by first | exact ⟨Nat.zero_le _, hro, war_0 _⟩ | exact ⟨Nat.zero_le _, rowsO_last hro (by omega) (by omega), war_0 _⟩) ?_
     rintro ⟨k2, us2, rows2⟩ hinv KL45 hKL45
     simp only [sU, sL] at hinv hKL45 ⊢
     obtain ⟨hk2, ho, hW⟩ := hinv
     refine gc_seq fun K46 hK46 => ?_
     refine gc_sr fun K47 hK47 => ?_
     refine gm ?_
     refine gm ?_
     refine gv (qt_lss rfl rfl rfl) ?_
     refine gnt (hK47 _ _ ?_)
     refine gc_cond rfl (fun hc3 => ?_) (fun hc3 => ?_)
     ·try simp only [sA] at hc3
      refine gc_skip ?_
      refine gk_then (hK46 _ _ ?_)
      refine gc_seq fun K48 hK48 => ?_
      refine gc_block ?_
      refine gc_sr fun K49 hK49 => ?_
      refine gas ?_
      refine gnt (hK49 _ _ ?_)
      refine gc_block ?_
      try simp only [sL]
      refine gc_loopT ([(0, _), (1, _), (4, _), (5, _), (6, _), (9, _), (15, _), (45, _), (57, _)] : Env) (fun s : Nat × (List Value) × (List (List Int)) => (fun (i : Nat) (us3 : List Value) (rows3 : List (List Int)) => (([(10, .int .i64 (i : Int))] : Env), ([(2, own2U (.slice a n q) us3 rows3)] : List (Nat × Itm)), i ≤ n ∧ InvW n rows2 rows3 k2 i 0, n - i)) s.1 s.2.1 s.2.2) (0, _, _) (by repeat first | exact sub_nil | refine sub_cons rfl ?_) rfl ⟨Nat.zero_le _, invW_zero ho _⟩ ?_
      rintro ⟨i, us3, rows3⟩ hinv KL50 hKL50
      simp only [sU, sL] at hinv hKL50 ⊢
      obtain ⟨hi, hWi⟩ := hinv
      refine gc_seq fun K51 hK51 => ?_
      refine gc_sr fun K52 hK52 => ?_
      refine gm ?_
      refine gm ?_
      refine gv (qt_lss rfl rfl rfl) ?_
      refine gnt (hK52 _ _ ?_)
      refine gc_cond rfl (fun hc4 => ?_) (fun hc4 => ?_)
      ·try simp only [sA] at hc4
       refine gc_skip ?_
       refine gk_then (hK51 _ _ ?_)
       refine gc_seq fun K53 hK53 => ?_
       refine gc_block ?_
       refine gc_sr fun K54 hK54 => ?_
       refine gas ?_
       refine gnt (hK54 _ _ ?_)
       refine gc_block ?_
       try simp only [sL]
       refine gc_loopT ([(0, _), (1, _), (4, _), (5, _), (6, _), (9, _), (10, _), (15, _), (45, _), (57, _), (62, _)] : Env) (fun s : Nat × (List Value) × (List (List Int)) => (fun (j : Nat) (us4 : List Value) (rows4 : List (List Int)) => (([(11, .int .i64 (j : Int))] : Env), ([(2, own2U (.slice a n q) us4 rows4)] : List (Nat × Itm)), j ≤ n ∧ InvW n rows2 rows4 k2 i j, n - j)) s.1 s.2.1 s.2.2) (0, _, _) (by repeat first | exact sub_nil | refine sub_cons rfl ?_) rfl ⟨Nat.zero_le _, hWi⟩ ?_
       rintro ⟨j, us4, rows4⟩ hinv KL55 hKL55
       simp only [sU, sL] at hinv hKL55 ⊢
       obtain ⟨hj, hWj⟩ := hinv
       have hl4 := hWj.1.1
       refine gc_seq fun K56 hK56 => ?_
       refine gc_sr fun K57 hK57 => ?_
       refine gm ?_
       refine gm ?_
       refine gv (qt_lss rfl rfl rfl) ?_
       refine gnt (hK57 _ _ ?_)
       refine gc_cond rfl (fun hc5 => ?_) (fun hc5 => ?_)
       ·try simp only [sA] at hc5
        refine gc_skip ?_
        refine gk_then (hK56 _ _ ?_)
        refine gc_seq fun K58 hK58 => ?_
        refine gc_block ?_
        refine gc_seq fun K59 hK59 => ?_
        have hq1 := (hWj.1.2 i (by omega)).len
        have hq2 := (hWj.1.2 k2 (by omega)).len
        refine gc_region ?_
        refine gm ?_
        refine gm ?_
        refine gv (qti2 (fun w M => lenA_U (n := 2) rfl M)) ?_
        refine gv (qt_loadU (n := 2) rfl rfl underlying24 rfl rfl (by omega) (by omega)) ?_
        refine gm ?_
        refine gv (qt_index rfl rfl rfl ulE1 szE1 (fun w M => lenA_row (n := 2) rfl (by omega) (by omega) M) (by omega) (by omega)) ?_
        refine gv (qt_load1 rfl rfl underlying2 rfl (fun w M => mem_rowU (n := 2) M rfl (by omega) (by omega)) (by omega) (by omega)) ?_
        refine gv (qt_eql rfl rfl rfl) ?_
        refine g_splitv (.free rfl) rfl rfl (qt_move rfl rfl) (fun hs23_8 => ?_) (fun hs23_8 => ?_)
        ·try simp only [sA] at hs23_8
         refine gvh (qt_move rfl rfl) ?_
         refine gvh (qt_move rfl rfl) ?_
         refine gvh (qti2 (fun w M => lenA_U (n := 2) rfl M)) ?_
         refine gvh (qt_loadU (n := 2) rfl rfl underlying24 rfl rfl (by omega) (by omega)) ?_
         refine gvh (qt_move rfl rfl) ?_
         refine gvh (qt_index rfl rfl rfl ulE1 szE1 (fun w M => lenA_row (n := 2) rfl (by omega) (by omega) M) (by omega) (by omega)) ?_
         refine gvh (qt_load1 rfl rfl underlying2 rfl (fun w M => mem_rowU (n := 2) M rfl (by omega) (by omega)) (by omega) (by omega)) ?_
         refine gvh (qt_eql rfl rfl rfl) ?_
         refine gv (qt_pick_t rfl rfl rfl) ?_
         refine gnt (hK59 _ _ ?_)
         refine gc_cond rfl (fun hc6 => ?_) (fun hc6 => ?_)
         ·try simp only [sA] at hc6
          refine gc_region ?_
          refine gm ?_
          refine gm ?_
          refine gv (qti2 (fun w M => lenA_U (n := 2) rfl M)) ?_
          refine gv (qt_loadU (n := 2) rfl rfl underlying24 rfl rfl (by omega) (by omega)) ?_
          refine gm ?_
          refine gv (qt_index rfl rfl rfl ulE1 szE1 (fun w M => lenA_row (n := 2) rfl (by omega) (by omega) M) (by omega) (by omega)) ?_
          refine gop fun K60 hK60 => ?_
          refine go_storeU (n := 2) rfl rfl rfl rfl (by kernel_rfl) rfl (by omega) (by omega) (by omega) (by omega) ?_
          refine hK60 _ _ ?_
          refine g_nil ?_
          refine gk_block ?_
          refine gk_then (hK58 _ _ ?_)
          refine gc_region ?_
          refine gm ?_
          refine gv (qt_add rfl rfl rfl (by omega)) ?_
          refine gas ?_
          refine g_nil ?_
          refine gk_then (gk_take 3 ?_)
          refine gk_sub ?hs_61 (hKL55 (j + 1, _, _) ?hi_61 ?hm_61)
          case hs_61 => repeat first | exact sub_nil | refine sub_cons rfl ?_
          case hi_61 => first | exact ⟨by omega, invW_t hWj (by omega) (by omega) (by omega) (by assumption) (by assumption)⟩ | exact ⟨by omega, invW_f hWj (by omega) (by omega) (by omega) (fun h => by first | exact absurd h.1 (by assumption) | exact absurd h.2 (by assumption))⟩
          case hm_61 => omega
         try simp only [sA] at hc6
         refine gc_skip ?_
         refine gk_block ?_
         refine gk_then (hK58 _ _ ?_)
         refine gc_region ?_
         refine gm ?_
         refine gv (qt_add rfl rfl rfl (by omega)) ?_
         refine gas ?_
         refine g_nil ?_
         refine gk_then (gk_take 3 ?_)
         refine gk_sub ?hs_62 (hKL55 (j + 1, _, _) ?hi_62 ?hm_62)
         case hs_62 => repeat first | exact sub_nil | refine sub_cons rfl ?_
         case hi_62 => first | exact ⟨by omega, invW_t hWj (by omega) (by omega) (by omega) (by assumption) (by assumption)⟩ | exact ⟨by omega, invW_f hWj (by omega) (by omega) (by omega) (fun h => by first | exact absurd h.1 (by assumption) | exact absurd h.2 (by assumption))⟩
         case hm_62 => omega
        try simp only [sA] at hs23_8
        refine gsk ?_
        refine gsk ?_
        refine gsk ?_
        refine gsk ?_
        refine gsk ?_
        refine gsk ?_
        refine gsk ?_
        refine gsk ?_
        refine gv (qt_pick_f rfl rfl rfl) ?_
        refine gnt (hK59 _ _ ?_)
        refine gc_cond_f rfl ?_
        refine gc_skip ?_
        refine gk_block ?_
        refine gk_then (hK58 _ _ ?_)
        refine gc_region ?_
        refine gm ?_
        refine gv (qt_add rfl rfl rfl (by omega)) ?_
        refine gas ?_
        refine g_nil ?_
        refine gk_then (gk_take 3 ?_)
        refine gk_sub ?hs_63 (hKL55 (j + 1, _, _) ?hi_63 ?hm_63)
        case hs_63 => repeat first | exact sub_nil | refine sub_cons rfl ?_
        case hi_63 => first | exact ⟨by omega, invW_t hWj (by omega) (by omega) (by omega) (by assumption) (by assumption)⟩ | exact ⟨by omega, invW_f hWj (by omega) (by omega) (by omega) (fun h => by first | exact absurd h.1 (by assumption) | exact absurd h.2 (by assumption))⟩
        case hm_63 => omega
       try simp only [sA] at hc5
       refine gc_exit ?_
       refine gk_then_exit ?_
       refine gk_then_exit ?_
       refine gk_block_hit ?_
       refine gk_block ?_
       refine gk_then (hK53 _ _ ?_)
       refine gc_region ?_
       refine gm ?_
       refine gv (qt_add rfl rfl rfl (by omega)) ?_
       refine gas ?_
       refine g_nil ?_
       obtain rfl : n = j := by omega
       refine gk_then (gk_take 3 ?_)
       refine gk_sub ?hs_64 (hKL50 (i + 1, _, _) ?hi_64 ?hm_64)
       case hs_64 => repeat first | exact sub_nil | refine sub_cons rfl ?_
       case hi_64 => exact ⟨by omega, invW_row hWj⟩
       case hm_64 => omega
      try simp only [sA] at hc4
      refine gc_exit ?_
      refine gk_then_exit ?_
      refine gk_then_exit ?_
      refine gk_block_hit ?_
      refine gk_block ?_
      refine gk_then (hK48 _ _ ?_)
      refine gc_region ?_
      refine gm ?_
      refine gv (qt_add rfl rfl rfl (by omega)) ?_
      refine gas ?_
      refine g_nil ?_
      obtain rfl : n = i := by omega
      refine gk_then (gk_take 3 ?_)
      refine gk_sub ?hs_65 (hKL45 (k2 + 1, _, _) ?hi_65 ?hm_65)
      case hs_65 => repeat first | exact sub_nil | refine sub_cons rfl ?_
      case hi_65 => exact ⟨by omega, invW_end hWi hW⟩
      case hm_65 => omega
     try simp only [sA] at hc3
     refine gc_exit ?_
     refine gk_then_exit ?_
     refine gk_then_exit ?_
     refine gk_block_hit ?_
     refine gk_then (hK43 _ _ ?_)
     refine gc_sr fun K66 hK66 => ?_
     refine gm ?_
     refine gas ?_
     refine gnt (hK66 _ _ ?_)
     refine gc_ret ?_
     refine ret_1 rfl rfl  (fun w M => ?_)
     obtain rfl : n = k2 := by omega
     have hp := pre_end ho hW
     have hl2 : rows2.length = n := ho.1
     refine ⟨(rows2, a, q, us2), hp, ?_, ?_⟩
     ·show _ = Ending.returned (.slice a rows2.length q); rw [hl2]
     show Mem w0 _ [_, _, own2U (.slice a rows2.length q) us2 rows2]; rw [hl2]; exact mem_take 3 M
    refine go_srcNext (n := 0) rfl rfl rfl func51 rfl (by decide) rfl hI rfl (by omega) ?_
    intro r67 hs67
    refine hK37 _ _ (fun w M => (ms0 0 2 3 M :)) ?_
    refine gao 4 fun K69 hK69 => ?_
    refine gov (qt_loadU (n := 2) rfl rfl underlying24 rfl rfl (by omega) (by omega)) ?_
    refine hK69 _ _ (fun w M => (ms0 0 2 3 M :)) ?_
    refine gao 8 fun K70 hK70 => ?_
    refine gov (qt_index rfl rfl rfl ulE1 szE1 (fun w M => lenA_row (n := 2) rfl (by omega) (by omega) M) (by omega) (by omega)) ?_
    refine hK70 _ _ (fun w M => (ms0 0 2 3 M :)) ?_
    refine gao 9 fun K71 hK71 => ?_
    refine go_storeU (n := 2) rfl rfl rfl rfl (by kernel_rfl) rfl (by omega) (by omega) (by omega) (by omega) ?_
    refine hK71 _ _ (fun w M => (ms0 0 2 3 M :)) ?_
    refine ga_done (by kernel_rfl) ?_
    refine gk_then (hK31 _ _ ?_)
    refine gc_seq fun K72 hK72 => ?_
    refine gc_sr fun K73 hK73 => ?_
    refine gas ?_
    refine gnt (hK73 _ _ ?_)
    refine gc_block ?_
    try simp only [sL]
    refine gc_loopT ([(0, _), (1, _), (4, _), (5, _), (6, _), (15, _), (45, _)] : Env) (fun s : Nat × (List Value) × (List (List Int)) => (fun (k2 : Nat) (us2 : List Value) (rows2 : List (List Int)) => (([(9, .int .i64 (k2 : Int))] : Env), ([(2, own2U (.slice a n q) us2 rows2)] : List (Nat × Itm)), k2 ≤ n ∧ RowsO n rows2 n ∧ WarP (relN n rows2) k2, n - k2)) s.1 s.2.1 s.2.2) (0, _, _) (by repeat first | exact sub_nil | refine sub_cons rfl ?_) rfl (by first | exact ⟨Nat.zero_le _, hro, war_0 _⟩ | exact ⟨Nat.zero_le _, rowsO_last hro (by omega) (by omega), war_0 _⟩) ?_
    rintro ⟨k2, us2, rows2⟩ hinv KL74 hKL74
    simp only [sU, sL] at hinv hKL74 ⊢
    obtain ⟨hk2, ho, hW⟩ := hinv
    refine gc_seq fun K75 hK75 => ?_
    refine gc_sr fun K76 hK76 => ?_
    refine gm ?_
    refine gm ?_
    refine gv (qt_lss rfl rfl rfl) ?_
    refine gnt (hK76 _ _ ?_)
    refine gc_cond rfl (fun hc7 => ?_) (fun hc7 => ?_)
    ·try simp only [sA] at hc7
     refine gc_skip ?_
     refine gk_then (hK75 _ _ ?_)
     refine gc_seq fun K77 hK77 => ?_
     refine gc_block ?_
     refine gc_sr fun K78 hK78 => ?_
     refine gas ?_
     refine gnt (hK78 _ _ ?_)
     refine gc_block ?_
     try simp only [sL]
     refine gc_loopT ([(0, _), (1, _), (4, _), (5, _), (6, _), (9, _), (15, _), (45, _), (57, _)] : Env) (fun s : Nat × (List Value) × (List (List Int)) => (fun (i : Nat) (us3 : List Value) (rows3 : List (List Int)) => (([(10, .int .i64 (i : Int))] : Env), ([(2, own2U (.slice a n q) us3 rows3)] : List (Nat × Itm)), i ≤ n ∧ InvW n rows2 rows3 k2 i 0, n - i)) s.1 s.2.1 s.2.2) (0, _, _) (by repeat first | exact sub_nil | refine sub_cons rfl ?_) rfl ⟨Nat.zero_le _, invW_zero ho _⟩ ?_
     rintro ⟨i, us3, rows3⟩ hinv KL79 hKL79
     simp only [sU, sL] at hinv hKL79 ⊢
     obtain ⟨hi, hWi⟩ := hinv
     refine gc_seq fun K80 hK80 => ?_
     refine gc_sr fun K81 hK81 => ?_
     refine gm ?_
     refine gm ?_
     refine gv (qt_lss rfl rfl rfl) ?_
     refine gnt (hK81 _ _ ?_)
     refine gc_cond rfl (fun hc8 => ?_) (fun hc8 => ?_)
     ·try simp only [sA] at hc8
      refine gc_skip ?_
      refine gk_then (hK80 _ _ ?_)
      refine gc_seq fun K82 hK82 => ?_
      refine gc_block ?_
      refine gc_sr fun K83 hK83 => ?_
      refine gas ?_
      refine gnt (hK83 _ _ ?_)
      refine gc_block ?_
      try simp only [sL]
      refine gc_loopT ([(0, _), (1, _), (4, _), (5, _), (6, _), (9, _), (10, _), (15, _), (45, _), (57, _), (62, _)] : Env) (fun s : Nat × (List Value) × (List (List Int)) => (fun (j : Nat) (us4 : List Value) (rows4 : List (List Int)) => (([(11, .int .i64 (j : Int))] : Env), ([(2, own2U (.slice a n q) us4 rows4)] : List (Nat × Itm)), j ≤ n ∧ InvW n rows2 rows4 k2 i j, n - j)) s.1 s.2.1 s.2.2) (0, _, _) (by repeat first | exact sub_nil | refine sub_cons rfl ?_) rfl ⟨Nat.zero_le _, hWi⟩ ?_
      rintro ⟨j, us4, rows4⟩ hinv KL84 hKL84
      simp only [sU, sL] at hinv hKL84 ⊢
      obtain ⟨hj, hWj⟩ := hinv
      have hl4 := hWj.1.1
      refine gc_seq fun K85 hK85 => ?_
      refine gc_sr fun K86 hK86 => ?_
      refine gm ?_
      refine gm ?_
      refine gv (qt_lss rfl rfl rfl) ?_
      refine gnt (hK86 _ _ ?_)
      refine gc_cond rfl (fun hc9 => ?_) (fun hc9 => ?_)
      ·try simp only [sA] at hc9
       refine gc_skip ?_
       refine gk_then (hK85 _ _ ?_)
       refine gc_seq fun K87 hK87 => ?_
       refine gc_block ?_
       refine gc_seq fun K88 hK88 => ?_
       have hq1 := (hWj.1.2 i (by omega)).len
       have hq2 := (hWj.1.2 k2 (by omega)).len
       refine gc_region ?_
       refine gm ?_
       refine gm ?_
       refine gv (qti2 (fun w M => lenA_U (n := 2) rfl M)) ?_
       refine gv (qt_loadU (n := 2) rfl rfl underlying24 rfl rfl (by omega) (by omega)) ?_
       refine gm ?_
       refine gv (qt_index rfl rfl rfl ulE1 szE1 (fun w M => lenA_row (n := 2) rfl (by omega) (by omega) M) (by omega) (by omega)) ?_
       refine gv (qt_load1 rfl rfl underlying2 rfl (fun w M => mem_rowU (n := 2) M rfl (by omega) (by omega)) (by omega) (by omega)) ?_
       refine gv (qt_eql rfl rfl rfl) ?_
       refine g_splitv (.free rfl) rfl rfl (qt_move rfl rfl) (fun hs23_8 => ?_) (fun hs23_8 => ?_)
       ·try simp only [sA] at hs23_8
        refine gvh (qt_move rfl rfl) ?_
        refine gvh (qt_move rfl rfl) ?_
        refine gvh (qti2 (fun w M => lenA_U (n := 2) rfl M)) ?_
        refine gvh (qt_loadU (n := 2) rfl rfl underlying24 rfl rfl (by omega) (by omega)) ?_
        refine gvh (qt_move rfl rfl) ?_
        refine gvh (qt_index rfl rfl rfl ulE1 szE1 (fun w M => lenA_row (n := 2) rfl (by omega) (by omega) M) (by omega) (by omega)) ?_
        refine gvh (qt_load1 rfl rfl underlying2 rfl (fun w M => mem_rowU (n := 2) M rfl (by omega) (by omega)) (by omega) (by omega)) ?_
        refine gvh (qt_eql rfl rfl rfl) ?_
        refine gv (qt_pick_t rfl rfl rfl) ?_
        refine gnt (hK88 _ _ ?_)
        refine gc_cond rfl (fun hc10 => ?_) (fun hc10 => ?_)
        ·try simp only [sA] at hc10
         refine gc_region ?_
         refine gm ?_
         refine gm ?_
         refine gv (qti2 (fun w M => lenA_U (n := 2) rfl M)) ?_
         refine gv (qt_loadU (n := 2) rfl rfl underlying24 rfl rfl (by omega) (by omega)) ?_
         refine gm ?_
         refine gv (qt_index rfl rfl rfl ulE1 szE1 (fun w M => lenA_row (n := 2) rfl (by omega) (by omega) M) (by omega) (by omega)) ?_
         refine gop fun K89 hK89 => ?_
         refine go_storeU (n := 2) rfl rfl rfl rfl (by kernel_rfl) rfl (by omega) (by omega) (by omega) (by omega) ?_
         refine hK89 _ _ ?_
         refine g_nil ?_
         refine gk_block ?_
         refine gk_then (hK87 _ _ ?_)
         refine gc_region ?_
         refine gm ?_
         refine gv (qt_add rfl rfl rfl (by omega)) ?_
         refine gas ?_
         refine g_nil ?_
         refine gk_then (gk_take 3 ?_)
         refine gk_sub ?hs_90 (hKL84 (j + 1, _, _) ?hi_90 ?hm_90)
         case hs_90 => repeat first | exact sub_nil | refine sub_cons rfl ?_
         case hi_90 => first | exact ⟨by omega, invW_t hWj (by omega) (by omega) (by omega) (by assumption) (by assumption)⟩ | exact ⟨by omega, invW_f hWj (by omega) (by omega) (by omega) (fun h => by first | exact absurd h.1 (by assumption) | exact absurd h.2 (by assumption))⟩
         case hm_90 => omega
        try simp only [sA] at hc10
        refine gc_skip ?_
        refine gk_block ?_
        refine gk_then (hK87 _ _ ?_)
        refine gc_region ?_
        refine gm ?_
        refine gv (qt_add rfl rfl rfl (by omega)) ?_
        refine gas ?_
        refine g_nil ?_
        refine gk_then (gk_take 3 ?_)
        refine gk_sub ?hs_91 (hKL84 (j + 1, _, _) ?hi_91 ?hm_91)
        case hs_91 => repeat first | exact sub_nil | refine sub_cons rfl ?_
        case hi_91 => first | exact ⟨by omega, invW_t hWj (by omega) (by omega) (by omega) (by assumption) (by assumption)⟩ | exact ⟨by omega, invW_f hWj (by omega) (by omega) (by omega) (fun h => by first | exact absurd h.1 (by assumption) | exact absurd h.2 (by assumption))⟩
        case hm_91 => omega
       try simp only [sA] at hs23_8
       refine gsk ?_
       refine gsk ?_
       refine gsk ?_
       refine gsk ?_
       refine gsk ?_
       refine gsk ?_
       refine gsk ?_
       refine gsk ?_
       refine gv (qt_pick_f rfl rfl rfl) ?_
       refine gnt (hK88 _ _ ?_)
       refine gc_cond_f rfl ?_
       refine gc_skip ?_
       refine gk_block ?_
       refine gk_then (hK87 _ _ ?_)
       refine gc_region ?_
       refine gm ?_
       refine gv (qt_add rfl rfl rfl (by omega)) ?_
       refine gas ?_
       refine g_nil ?_
       refine gk_then (gk_take 3 ?_)
       refine gk_sub ?hs_92 (hKL84 (j + 1, _, _) ?hi_92 ?hm_92)
       case hs_92 => repeat first | exact sub_nil | refine sub_cons rfl ?_
       case hi_92 => first | exact ⟨by omega, invW_t hWj (by omega) (by omega) (by omega) (by assumption) (by assumption)⟩ | exact ⟨by omega, invW_f hWj (by omega) (by omega) (by omega) (fun h => by first | exact absurd h.1 (by assumption) | exact absurd h.2 (by assumption))⟩
       case hm_92 => omega
      try simp only [sA] at hc9
      refine gc_exit ?_
      refine gk_then_exit ?_
      refine gk_then_exit ?_
      refine gk_block_hit ?_
      refine gk_block ?_
      refine gk_then (hK82 _ _ ?_)
      refine gc_region ?_
      refine gm ?_
      refine gv (qt_add rfl rfl rfl (by omega)) ?_
      refine gas ?_
      refine g_nil ?_
      obtain rfl : n = j := by omega
      refine gk_then (gk_take 3 ?_)
      refine gk_sub ?hs_93 (hKL79 (i + 1, _, _) ?hi_93 ?hm_93)
      case hs_93 => repeat first | exact sub_nil | refine sub_cons rfl ?_
      case hi_93 => exact ⟨by omega, invW_row hWj⟩
      case hm_93 => omega
     try simp only [sA] at hc8
     refine gc_exit ?_
     refine gk_then_exit ?_
     refine gk_then_exit ?_
     refine gk_block_hit ?_
     refine gk_block ?_
     refine gk_then (hK77 _ _ ?_)
     refine gc_region ?_
     refine gm ?_
     refine gv (qt_add rfl rfl rfl (by omega)) ?_
     refine gas ?_
     refine g_nil ?_
     obtain rfl : n = i := by omega
     refine gk_then (gk_take 3 ?_)
     refine gk_sub ?hs_94 (hKL74 (k2 + 1, _, _) ?hi_94 ?hm_94)
     case hs_94 => repeat first | exact sub_nil | refine sub_cons rfl ?_
     case hi_94 => exact ⟨by omega, invW_end hWi hW⟩
     case hm_94 => omega
    try simp only [sA] at hc7
    refine gc_exit ?_
    refine gk_then_exit ?_
    refine gk_then_exit ?_
    refine gk_block_hit ?_
    refine gk_then (hK72 _ _ ?_)
    refine gc_sr fun K95 hK95 => ?_
    refine gm ?_
    refine gas ?_
    refine gnt (hK95 _ _ ?_)
    refine gc_ret ?_
    refine ret_1 rfl rfl  (fun w M => ?_)
    obtain rfl : n = k2 := by omega
    have hp := pre_end ho hW
    have hl2 : rows2.length = n := ho.1
    refine ⟨(rows2, a, q, us2), hp, ?_, ?_⟩
    ·show _ = Ending.returned (.slice a rows2.length q); rw [hl2]
    show Mem w0 _ [_, _, own2U (.slice a rows2.length q) us2 rows2]; rw [hl2]; exact mem_take 3 M
   refine go_srcNext (n := 0) rfl rfl rfl func51 rfl (by decide) rfl hI rfl (by omega) ?_
   intro r96 hs96
   refine hK35 _ _ (fun w M => (ms0 0 2 3 M :)) ?_
   refine gao 3 fun K98 hK98 => ?_
   refine gov (qti2 (fun w M => lenA_U (n := 2) rfl M)) ?_
   refine hK98 _ _ (fun w M => (ms0 0 2 3 M :)) ?_
   refine gao 4 fun K99 hK99 => ?_
   refine gov (qt_loadU (n := 2) rfl rfl underlying24 rfl rfl (by omega) (by omega)) ?_
   refine hK99 _ _ (fun w M => (ms0 0 2 3 M :)) ?_
   refine gao 8 fun K100 hK100 => ?_
   refine gov (qt_index rfl rfl rfl ulE1 szE1 (fun w M => lenA_row (n := 2) rfl (by omega) (by omega) M) (by omega) (by omega)) ?_
   refine hK100 _ _ (fun w M => (ms0 0 2 3 M :)) ?_
   refine gao 9 fun K101 hK101 => ?_
   refine go_storeU (n := 2) rfl rfl rfl rfl (by kernel_rfl) rfl (by omega) (by omega) (by omega) (by omega) ?_
   refine hK101 _ _ (fun w M => (ms0 0 2 3 M :)) ?_
   refine ga_done (by kernel_rfl) ?_
   refine gk_then (hK31 _ _ ?_)
   refine gc_seq fun K102 hK102 => ?_
   refine gc_sr fun K103 hK103 => ?_
   refine gas ?_
   refine gnt (hK103 _ _ ?_)
   refine gc_block ?_
   try simp only [sL]
   refine gc_loopT ([(0, _), (1, _), (4, _), (5, _), (6, _), (15, _), (45, _)] : Env) (fun s : Nat × (List Value) × (List (List Int)) => (fun (k2 : Nat) (us2 : List Value) (rows2 : List (List Int)) => (([(9, .int .i64 (k2 : Int))] : Env), ([(2, own2U (.slice a n q) us2 rows2)] : List (Nat × Itm)), k2 ≤ n ∧ RowsO n rows2 n ∧ WarP (relN n rows2) k2, n - k2)) s.1 s.2.1 s.2.2) (0, _, _) (by repeat first | exact sub_nil | refine sub_cons rfl ?_) rfl (by first | exact ⟨Nat.zero_le _, hro, war_0 _⟩ | exact ⟨Nat.zero_le _, rowsO_last hro (by omega) (by omega), war_0 _⟩) ?_
   rintro ⟨k2, us2, rows2⟩ hinv KL104 hKL104
   simp only [sU, sL] at hinv hKL104 ⊢
   obtain ⟨hk2, ho, hW⟩ := hinv
   refine gc_seq fun K105 hK105 => ?_
   refine gc_sr fun K106 hK106 => ?_
   refine gm ?_
   refine gm ?_
   refine gv (qt_lss rfl rfl rfl) ?_
   refine gnt (hK106 _ _ ?_)
   refine gc_cond rfl (fun hc11 => ?_) (fun hc11 => ?_)
   ·try simp only [sA] at hc11
    refine gc_skip ?_
    refine gk_then (hK105 _ _ ?_)
    refine gc_seq fun K107 hK107 => ?_
    refine gc_block ?_
    refine gc_sr fun K108 hK108 => ?_
    refine gas ?_
    refine gnt (hK108 _ _ ?_)
    refine gc_block ?_
    try simp only [sL]
    refine gc_loopT ([(0, _), (1, _), (4, _), (5, _), (6, _), (9, _), (15, _), (45, _), (57, _)] : Env) (fun s : Nat × (List Value) × (List (List Int)) => (fun (i : Nat) (us3 : List Value) (rows3 : List (List Int)) => (([(10, .int .i64 (i : Int))] : Env), ([(2, own2U (.slice a n q) us3 rows3)] : List (Nat × Itm)), i ≤ n ∧ InvW n rows2 rows3 k2 i 0, n - i)) s.1 s.2.1 s.2.2) (0, _, _) (by repeat first | exact sub_nil | refine sub_cons rfl ?_) rfl ⟨Nat.zero_le _, invW_zero ho _⟩ ?_
    rintro ⟨i, us3, rows3⟩ hinv KL109 hKL109
    simp only [sU, sL] at hinv hKL109 ⊢
    obtain ⟨hi, hWi⟩ := hinv
    refine gc_seq fun K110 hK110 => ?_
    refine gc_sr fun K111 hK111 => ?_
    refine gm ?_
    refine gm ?_
    refine gv (qt_lss rfl rfl rfl) ?_
    refine gnt (hK111 _ _ ?_)
    refine gc_cond rfl (fun hc12 => ?_) (fun hc12 => ?_)
    ·try simp only [sA] at hc12
     refine gc_skip ?_
     refine gk_then (hK110 _ _ ?_)
     refine gc_seq fun K112 hK112 => ?_
     refine gc_block ?_
     refine gc_sr fun K113 hK113 => ?_
     refine gas ?_
     refine gnt (hK113 _ _ ?_)
     refine gc_block ?_
     try simp only [sL]
     refine gc_loopT ([(0, _), (1, _), (4, _), (5, _), (6, _), (9, _), (10, _), (15, _), (45, _), (57, _), (62, _)] : Env) (fun s : Nat × (List Value) × (List (List Int)) => (fun (j : Nat) (us4 : List Value) (rows4 : List (List Int)) => (([(11, .int .i64 (j : Int))] : Env), ([(2, own2U (.slice a n q) us4 rows4)] : List (Nat × Itm)), j ≤ n ∧ InvW n rows2 rows4 k2 i j, n - j)) s.1 s.2.1 s.2.2) (0, _, _) (by repeat first | exact sub_nil | refine sub_cons rfl ?_) rfl ⟨Nat.zero_le _, hWi⟩ ?_
     rintro ⟨j, us4, rows4⟩ hinv KL114 hKL114
     simp only [sU, sL] at hinv hKL114 ⊢
     obtain ⟨hj, hWj⟩ := hinv
     have hl4 := hWj.1.1
     refine gc_seq fun K115 hK115 => ?_
     refine gc_sr fun K116 hK116 => ?_
     refine gm ?_
     refine gm ?_
     refine gv (qt_lss rfl rfl rfl) ?_
     refine gnt (hK116 _ _ ?_)
     refine gc_cond rfl (fun hc13 => ?_) (fun hc13 => ?_)
     ·try simp only [sA] at hc13
      refine gc_skip ?_
      refine gk_then (hK115 _ _ ?_)
      refine gc_seq fun K117 hK117 => ?_
      refine gc_block ?_
      refine gc_seq fun K118 hK118 => ?_
      have hq1 := (hWj.1.2 i (by omega)).len
      have hq2 := (hWj.1.2 k2 (by omega)).len
      refine gc_region ?_
      refine gm ?_
      refine gm ?_
      refine gv (qti2 (fun w M => lenA_U (n := 2) rfl M)) ?_
      refine gv (qt_loadU (n := 2) rfl rfl underlying24 rfl rfl (by omega) (by omega)) ?_
      refine gm ?_
      refine gv (qt_index rfl rfl rfl ulE1 szE1 (fun w M => lenA_row (n := 2) rfl (by omega) (by omega) M) (by omega) (by omega)) ?_
      refine gv (qt_load1 rfl rfl underlying2 rfl (fun w M => mem_rowU (n := 2) M rfl (by omega) (by omega)) (by omega) (by omega)) ?_
      refine gv (qt_eql rfl rfl rfl) ?_
      refine g_splitv (.free rfl) rfl rfl (qt_move rfl rfl) (fun hs23_8 => ?_) (fun hs23_8 => ?_)
      ·try simp only [sA] at hs23_8
       refine gvh (qt_move rfl rfl) ?_
       refine gvh (qt_move rfl rfl) ?_
       refine gvh (qti2 (fun w M => lenA_U (n := 2) rfl M)) ?_
       refine gvh (qt_loadU (n := 2) rfl rfl underlying24 rfl rfl (by omega) (by omega)) ?_
       refine gvh (qt_move rfl rfl) ?_
       refine gvh (qt_index rfl rfl rfl ulE1 szE1 (fun w M => lenA_row (n := 2) rfl (by omega) (by omega) M) (by omega) (by omega)) ?_
       refine gvh (qt_load1 rfl rfl underlying2 rfl (fun w M => mem_rowU (n := 2) M rfl (by omega) (by omega)) (by omega) (by omega)) ?_
       refine gvh (qt_eql rfl rfl rfl) ?_
       refine gv (qt_pick_t rfl rfl rfl) ?_
       refine gnt (hK118 _ _ ?_)
       refine gc_cond rfl (fun hc14 => ?_) (fun hc14 => ?_)
       ·try simp only [sA] at hc14
        refine gc_region ?_
        refine gm ?_
        refine gm ?_
        refine gv (qti2 (fun w M => lenA_U (n := 2) rfl M)) ?_
        refine gv (qt_loadU (n := 2) rfl rfl underlying24 rfl rfl (by omega) (by omega)) ?_
        refine gm ?_
        refine gv (qt_index rfl rfl rfl ulE1 szE1 (fun w M => lenA_row (n := 2) rfl (by omega) (by omega) M) (by omega) (by omega)) ?_
        refine gop fun K119 hK119 => ?_
        refine go_storeU (n := 2) rfl rfl rfl rfl (by kernel_rfl) rfl (by omega) (by omega) (by omega) (by omega) ?_
        refine hK119 _ _ ?_
        refine g_nil ?_
        refine gk_block ?_
        refine gk_then (hK117 _ _ ?_)
        refine gc_region ?_
        refine gm ?_
        refine gv (qt_add rfl rfl rfl (by omega)) ?_
        refine gas ?_
        refine g_nil ?_
        refine gk_then (gk_take 3 ?_)
        refine gk_sub ?hs_120 (hKL114 (j + 1, _, _) ?hi_120 ?hm_120)
        case hs_120 => repeat first | exact sub_nil | refine sub_cons rfl ?_
        case hi_120 => first | exact ⟨by omega, invW_t hWj (by omega) (by omega) (by omega) (by assumption) (by assumption)⟩ | exact ⟨by omega, invW_f hWj (by omega) (by omega) (by omega) (fun h => by first | exact absurd h.1 (by assumption) | exact absurd h.2 (by assumption))⟩
        case hm_120 => omega
       try simp only [sA] at hc14
       refine gc_skip ?_
       refine gk_block ?_
       refine gk_then (hK117 _ _ ?_)
       refine gc_region ?_
       refine gm ?_
       refine gv (qt_add rfl rfl rfl (by omega)) ?_
       refine gas ?_
       refine g_nil ?_
       refine gk_then (gk_take 3 ?_)
       refine gk_sub ?hs_121 (hKL114 (j + 1, _, _) ?hi_121 ?hm_121)
       case hs_121 => repeat first | exact sub_nil | refine sub_cons rfl ?_
       case hi_121 => first | exact ⟨by omega, invW_t hWj (by omega) (by omega) (by omega) (by assumption) (by assumption)⟩ | exact ⟨by omega, invW_f hWj (by omega) (by omega) (by omega) (fun h => by first | exact absurd h.1 (by assumption) | exact absurd h.2 (by assumption))⟩
       case hm_121 => omega
      try simp only [sA] at hs23_8
      refine gsk ?_
      refine gsk ?_
      refine gsk ?_
      refine gsk ?_
      refine gsk ?_
      refine gsk ?_
      refine gsk ?_
      refine gsk ?_
      refine gv (qt_pick_f rfl rfl rfl) ?_
      refine gnt (hK118 _ _ ?_)
      refine gc_cond_f rfl ?_
      refine gc_skip ?_
      refine gk_block ?_
      refine gk_then (hK117 _ _ ?_)
      refine gc_region ?_
      refine gm ?_
      refine gv (qt_add rfl rfl rfl (by omega)) ?_
      refine gas ?_
      refine g_nil ?_
      refine gk_then (gk_take 3 ?_)
      refine gk_sub ?hs_122 (hKL114 (j + 1, _, _) ?hi_122 ?hm_122)
      case hs_122 => repeat first | exact sub_nil | refine sub_cons rfl ?_
      case hi_122 => first | exact ⟨by omega, invW_t hWj (by omega) (by omega) (by omega) (by assumption) (by assumption)⟩ | exact ⟨by omega, invW_f hWj (by omega) (by omega) (by omega) (fun h => by first | exact absurd h.1 (by assumption) | exact absurd h.2 (by assumption))⟩
      case hm_122 => omega
     try simp only [sA] at hc13
     refine gc_exit ?_
     refine gk_then_exit ?_
     refine gk_then_exit ?_
     refine gk_block_hit ?_
     refine gk_block ?_
     refine gk_then (hK112 _ _ ?_)
     refine gc_region ?_
     refine gm ?_
     refine gv (qt_add rfl rfl rfl (by omega)) ?_
     refine gas ?_
     refine g_nil ?_
     obtain rfl : n = j := by omega
     refine gk_then (gk_take 3 ?_)
     refine gk_sub ?hs_123 (hKL109 (i + 1, _, _) ?hi_123 ?hm_123)
     case hs_123 => repeat first | exact sub_nil | refine sub_cons rfl ?_
     case hi_123 => exact ⟨by omega, invW_row hWj⟩
     case hm_123 => omega
    try simp only [sA] at hc12
    refine gc_exit ?_
    refine gk_then_exit ?_
    refine gk_then_exit ?_
    refine gk_block_hit ?_
    refine gk_block ?_
    refine gk_then (hK107 _ _ ?_)
    refine gc_region ?_
    refine gm ?_
    refine gv (qt_add rfl rfl rfl (by omega)) ?_
    refine gas ?_
    refine g_nil ?_
    obtain rfl : n = i := by omega
    refine gk_then (gk_take 3 ?_)
    refine gk_sub ?hs_124 (hKL104 (k2 + 1, _, _) ?hi_124 ?hm_124)
    case hs_124 => repeat first | exact sub_nil | refine sub_cons rfl ?_
    case hi_124 => exact ⟨by omega, invW_end hWi hW⟩
    case hm_124 => omega
   try simp only [sA] at hc11
   refine gc_exit ?_
   refine gk_then_exit ?_
   refine gk_then_exit ?_
   refine gk_block_hit ?_
   refine gk_then (hK102 _ _ ?_)
   refine gc_sr fun K125 hK125 => ?_
   refine gm ?_
   refine gas ?_
   refine gnt (hK125 _ _ ?_)
   refine gc_ret ?_
   refine ret_1 rfl rfl  (fun w M => ?_)
   obtain rfl : n = k2 := by omega
   have hp := pre_end ho hW
   have hl2 : rows2.length = n := ho.1
   refine ⟨(rows2, a, q, us2), hp, ?_, ?_⟩
   ·show _ = Ending.returned (.slice a rows2.length q); rw [hl2]
   show Mem w0 _ [_, _, own2U (.slice a rows2.length q) us2 rows2]; rw [hl2]; exact mem_take 3 M
  try simp only [sA] at hc2
  refine gc_skip ?_
  refine gk_then (hK31 _ _ ?_)
  refine gc_seq fun K126 hK126 => ?_
  refine gc_sr fun K127 hK127 => ?_
  refine gas ?_
  refine gnt (hK127 _ _ ?_)
  refine gc_block ?_
  try simp only [sL]
  refine gc_loopT ([(0, _), (1, _), (4, _), (5, _), (6, _), (15, _), (45, _)] : Env) (fun s : Nat × (List Value) × (List (List Int)) => (fun (k2 : Nat) (us2 : List Value) (rows2 : List (List Int)) => (([(9, .int .i64 (k2 : Int))] : Env), ([(2, own2U (.slice a n q) us2 rows2)] : List (Nat × Itm)), k2 ≤ n ∧ RowsO n rows2 n ∧ WarP (relN n rows2) k2, n - k2)) s.1 s.2.1 s.2.2) (0, _, _) (by repeat first | exact sub_nil | refine sub_cons rfl ?_) rfl (by first | exact ⟨Nat.zero_le _, hro, war_0 _⟩ | exact ⟨Nat.zero_le _, rowsO_last hro (by omega) (by omega), war_0 _⟩) ?_
  rintro ⟨k2, us2, rows2⟩ hinv KL128 hKL128
  simp only [sU, sL] at hinv hKL128 ⊢
  obtain ⟨hk2, ho, hW⟩ := hinv
  refine gc_seq fun K129 hK129 => ?_
  refine gc_sr fun K130 hK130 => ?_
  refine gm ?_
  refine gm ?_
  refine gv (qt_lss rfl rfl rfl) ?_
  refine gnt (hK130 _ _ ?_)
  refine gc_cond rfl (fun hc15 => ?_) (fun hc15 => ?_)
  ·try simp only [sA] at hc15
   refine gc_skip ?_
   refine gk_then (hK129 _ _ ?_)
   refine gc_seq fun K131 hK131 => ?_
   refine gc_block ?_
   refine gc_sr fun K132 hK132 => ?_
   refine gas ?_
   refine gnt (hK132 _ _ ?_)
   refine gc_block ?_
   try simp only [sL]
   refine gc_loopT ([(0, _), (1, _), (4, _), (5, _), (6, _), (9, _), (15, _), (45, _), (57, _)] : Env) (fun s : Nat × (List Value) × (List (List Int)) => (fun (i : Nat) (us3 : List Value) (rows3 : List (List Int)) => (([(10, .int .i64 (i : Int))] : Env), ([(2, own2U (.slice a n q) us3 rows3)] : List (Nat × Itm)), i ≤ n ∧ InvW n rows2 rows3 k2 i 0, n - i)) s.1 s.2.1 s.2.2) (0, _, _) (by repeat first | exact sub_nil | refine sub_cons rfl ?_) rfl ⟨Nat.zero_le _, invW_zero ho _⟩ ?_
   rintro ⟨i, us3, rows3⟩ hinv KL133 hKL133
   simp only [sU, sL] at hinv hKL133 ⊢
   obtain ⟨hi, hWi⟩ := hinv
   refine gc_seq fun K134 hK134 => ?_
   refine gc_sr fun K135 hK135 => ?_
   refine gm ?_
   refine gm ?_
   refine gv (qt_lss rfl rfl rfl) ?_
   refine gnt (hK135 _ _ ?_)
   refine gc_cond rfl (fun hc16 => ?_) (fun hc16 => ?_)
   ·try simp only [sA] at hc16
    refine gc_skip ?_
    refine gk_then (hK134 _ _ ?_)
    refine gc_seq fun K136 hK136 => ?_
    refine gc_block ?_
    refine gc_sr fun K137 hK137 => ?_
    refine gas ?_
    refine gnt (hK137 _ _ ?_)
    refine gc_block ?_
    try simp only [sL]
    refine gc_loopT ([(0, _), (1, _), (4, _), (5, _), (6, _), (9, _), (10, _), (15, _), (45, _), (57, _), (62, _)] : Env) (fun s : Nat × (List Value) × (List (List Int)) => (fun (j : Nat) (us4 : List Value) (rows4 : List (List Int)) => (([(11, .int .i64 (j : Int))] : Env), ([(2, own2U (.slice a n q) us4 rows4)] : List (Nat × Itm)), j ≤ n ∧ InvW n rows2 rows4 k2 i j, n - j)) s.1 s.2.1 s.2.2) (0, _, _) (by repeat first | exact sub_nil | refine sub_cons rfl ?_) rfl ⟨Nat.zero_le _, hWi⟩ ?_
    rintro ⟨j, us4, rows4⟩ hinv KL138 hKL138
    simp only [sU, sL] at hinv hKL138 ⊢
    obtain ⟨hj, hWj⟩ := hinv
    have hl4 := hWj.1.1
    refine gc_seq fun K139 hK139 => ?_
    refine gc_sr fun K140 hK140 => ?_
    refine gm ?_
    refine gm ?_
    refine gv (qt_lss rfl rfl rfl) ?_
    refine gnt (hK140 _ _ ?_)
    refine gc_cond rfl (fun hc17 => ?_) (fun hc17 => ?_)
    ·try simp only [sA] at hc17
     refine gc_skip ?_
     refine gk_then (hK139 _ _ ?_)
     refine gc_seq fun K141 hK141 => ?_
     refine gc_block ?_
     refine gc_seq fun K142 hK142 => ?_
     have hq1 := (hWj.1.2 i (by omega)).len
     have hq2 := (hWj.1.2 k2 (by omega)).len
     refine gc_region ?_
     refine gm ?_
     refine gm ?_
     refine gv (qti2 (fun w M => lenA_U (n := 2) rfl M)) ?_
     refine gv (qt_loadU (n := 2) rfl rfl underlying24 rfl rfl (by omega) (by omega)) ?_
     refine gm ?_
     refine gv (qt_index rfl rfl rfl ulE1 szE1 (fun w M => lenA_row (n := 2) rfl (by omega) (by omega) M) (by omega) (by omega)) ?_
     refine gv (qt_load1 rfl rfl underlying2 rfl (fun w M => mem_rowU (n := 2) M rfl (by omega) (by omega)) (by omega) (by omega)) ?_
     refine gv (qt_eql rfl rfl rfl) ?_
     refine g_splitv (.free rfl) rfl rfl (qt_move rfl rfl) (fun hs23_8 => ?_) (fun hs23_8 => ?_)
     ·try simp only [sA] at hs23_8
      refine gvh (qt_move rfl rfl) ?_
      refine gvh (qt_move rfl rfl) ?_
      refine gvh (qti2 (fun w M => lenA_U (n := 2) rfl M)) ?_
      refine gvh (qt_loadU (n := 2) rfl rfl underlying24 rfl rfl (by omega) (by omega)) ?_
      refine gvh (qt_move rfl rfl) ?_
      refine gvh (qt_index rfl rfl rfl ulE1 szE1 (fun w M => lenA_row (n := 2) rfl (by omega) (by omega) M) (by omega) (by omega)) ?_
      refine gvh (qt_load1 rfl rfl underlying2 rfl (fun w M => mem_rowU (n := 2) M rfl (by omega) (by omega)) (by omega) (by omega)) ?_
      refine gvh (qt_eql rfl rfl rfl) ?_
      refine gv (qt_pick_t rfl rfl rfl) ?_
      refine gnt (hK142 _ _ ?_)
      refine gc_cond rfl (fun hc18 => ?_) (fun hc18 => ?_)
      ·try simp only [sA] at hc18
       refine gc_region ?_
       refine gm ?_
       refine gm ?_
       refine gv (qti2 (fun w M => lenA_U (n := 2) rfl M)) ?_
       refine gv (qt_loadU (n := 2) rfl rfl underlying24 rfl rfl (by omega) (by omega)) ?_
       refine gm ?_
       refine gv (qt_index rfl rfl rfl ulE1 szE1 (fun w M => lenA_row (n := 2) rfl (by omega) (by omega) M) (by omega) (by omega)) ?_
       refine gop fun K143 hK143 => ?_
       refine go_storeU (n := 2) rfl rfl rfl rfl (by kernel_rfl) rfl (by omega) (by omega) (by omega) (by omega) ?_
       refine hK143 _ _ ?_
       refine g_nil ?_
       refine gk_block ?_
       refine gk_then (hK141 _ _ ?_)
       refine gc_region ?_
       refine gm ?_
       refine gv (qt_add rfl rfl rfl (by omega)) ?_
       refine gas ?_
       refine g_nil ?_
       refine gk_then (gk_take 3 ?_)
       refine gk_sub ?hs_144 (hKL138 (j + 1, _, _) ?hi_144 ?hm_144)
       case hs_144 => repeat first | exact sub_nil | refine sub_cons rfl ?_
       case hi_144 => first | exact ⟨by omega, invW_t hWj (by omega) (by omega) (by omega) (by assumption) (by assumption)⟩ | exact ⟨by omega, invW_f hWj (by omega) (by omega) (by omega) (fun h => by first | exact absurd h.1 (by assumption) | exact absurd h.2 (by assumption))⟩
       case hm_144 => omega
      try simp only [sA] at hc18
      refine gc_skip ?_
      refine gk_block ?_
      refine gk_then (hK141 _ _ ?_)
      refine gc_region ?_
      refine gm ?_
      refine gv (qt_add rfl rfl rfl (by omega)) ?_
      refine gas ?_
      refine g_nil ?_
      refine gk_then (gk_take 3 ?_)
      refine gk_sub ?hs_145 (hKL138 (j + 1, _, _) ?hi_145 ?hm_145)
      case hs_145 => repeat first | exact sub_nil | refine sub_cons rfl ?_
      case hi_145 => first | exact ⟨by omega, invW_t hWj (by omega) (by omega) (by omega) (by assumption) (by assumption)⟩ | exact ⟨by omega, invW_f hWj (by omega) (by omega) (by omega) (fun h => by first | exact absurd h.1 (by assumption) | exact absurd h.2 (by assumption))⟩
      case hm_145 => omega
     try simp only [sA] at hs23_8
     refine gsk ?_
     refine gsk ?_
     refine gsk ?_
     refine gsk ?_
     refine gsk ?_
     refine gsk ?_
     refine gsk ?_
     refine gsk ?_
     refine gv (qt_pick_f rfl rfl rfl) ?_
     refine gnt (hK142 _ _ ?_)
     refine gc_cond_f rfl ?_
     refine gc_skip ?_
     refine gk_block ?_
     refine gk_then (hK141 _ _ ?_)
     refine gc_region ?_
     refine gm ?_
     refine gv (qt_add rfl rfl rfl (by omega)) ?_
     refine gas ?_
     refine g_nil ?_
     refine gk_then (gk_take 3 ?_)
     refine gk_sub ?hs_146 (hKL138 (j + 1, _, _) ?hi_146 ?hm_146)
     case hs_146 => repeat first | exact sub_nil | refine sub_cons rfl ?_
     case hi_146 => first | exact ⟨by omega, invW_t hWj (by omega) (by omega) (by omega) (by assumption) (by assumption)⟩ | exact ⟨by omega, invW_f hWj (by omega) (by omega) (by omega) (fun h => by first | exact absurd h.1 (by assumption) | exact absurd h.2 (by assumption))⟩
     case hm_146 => omega
    try simp only [sA] at hc17
    refine gc_exit ?_
    refine gk_then_exit ?_
    refine gk_then_exit ?_
    refine gk_block_hit ?_
    refine gk_block ?_
    refine gk_then (hK136 _ _ ?_)
    refine gc_region ?_
    refine gm ?_
    refine gv (qt_add rfl rfl rfl (by omega)) ?_
    refine gas ?_
    refine g_nil ?_
    obtain rfl : n = j := by omega
    refine gk_then (gk_take 3 ?_)
    refine gk_sub ?hs_147 (hKL133 (i + 1, _, _) ?hi_147 ?hm_147)
    case hs_147 => repeat first | exact sub_nil | refine sub_cons rfl ?_
    case hi_147 => exact ⟨by omega, invW_row hWj⟩
    case hm_147 => omega
   try simp only [sA] at hc16
   refine gc_exit ?_
   refine gk_then_exit ?_
   refine gk_then_exit ?_
   refine gk_block_hit ?_
   refine gk_block ?_
   refine gk_then (hK131 _ _ ?_)
   refine gc_region ?_
   refine gm ?_
   refine gv (qt_add rfl rfl rfl (by omega)) ?_
   refine gas ?_
   refine g_nil ?_
   obtain rfl : n = i := by omega
   refine gk_then (gk_take 3 ?_)
   refine gk_sub ?hs_148 (hKL128 (k2 + 1, _, _) ?hi_148 ?hm_148)
   case hs_148 => repeat first | exact sub_nil | refine sub_cons rfl ?_
   case hi_148 => exact ⟨by omega, invW_end hWi hW⟩
   case hm_148 => omega
  try simp only [sA] at hc15
  refine gc_exit ?_
  refine gk_then_exit ?_
  refine gk_then_exit ?_
  refine gk_block_hit ?_
  refine gk_then (hK126 _ _ ?_)
  refine gc_sr fun K149 hK149 => ?_
  refine gm ?_
  refine gas ?_
  refine gnt (hK149 _ _ ?_)
  refine gc_ret ?_
  refine ret_1 rfl rfl  (fun w M => ?_)
  obtain rfl : n = k2 := by omega
  have hp := pre_end ho hW
  have hl2 : rows2.length = n := ho.1
  refine ⟨(rows2, a, q, us2), hp, ?_, ?_⟩
  ·show _ = Ending.returned (.slice a rows2.length q); rw [hl2]
  show Mem w0 _ [_, _, own2U (.slice a rows2.length q) us2 rows2]; rw [hl2]; exact mem_take 3 M
 try simp only [sA] at hs12_2
 refine gsk ?_
 refine gsk ?_
 refine gsk ?_
 refine gv (qt_pick_f rfl rfl rfl) ?_
 refine gnt (hK32 _ _ ?_)
 refine gc_cond_f rfl ?_
 refine gc_skip ?_
 refine gk_then (hK31 _ _ ?_)
 refine gc_seq fun K150 hK150 => ?_
 refine gc_sr fun K151 hK151 => ?_
 refine gas ?_
 refine gnt (hK151 _ _ ?_)
 refine gc_block ?_
 try simp only [sL]
 refine gc_loopT ([(0, _), (1, _), (4, _), (5, _), (6, _), (15, _), (45, _)] : Env) (fun s : Nat × (List Value) × (List (List Int)) => (fun (k2 : Nat) (us2 : List Value) (rows2 : List (List Int)) => (([(9, .int .i64 (k2 : Int))] : Env), ([(2, own2U (.slice a n q) us2 rows2)] : List (Nat × Itm)), k2 ≤ n ∧ RowsO n rows2 n ∧ WarP (relN n rows2) k2, n - k2)) s.1 s.2.1 s.2.2) (0, _, _) (by repeat first | exact sub_nil | refine sub_cons rfl ?_) rfl (by first | exact ⟨Nat.zero_le _, hro, war_0 _⟩ | exact ⟨Nat.zero_le _, rowsO_last hro (by omega) (by omega), war_0 _⟩) ?_
 rintro ⟨k2, us2, rows2⟩ hinv KL152 hKL152
 simp only [sU, sL] at hinv hKL152 ⊢
 obtain ⟨hk2, ho, hW⟩ := hinv
 refine gc_seq fun K153 hK153 => ?_
 refine gc_sr fun K154 hK154 => ?_
 refine gm ?_
 refine gm ?_
 refine gv (qt_lss rfl rfl rfl) ?_
 refine gnt (hK154 _ _ ?_)
 refine gc_cond rfl (fun hc19 => ?_) (fun hc19 => ?_)
 ·try simp only [sA] at hc19
  refine gc_skip ?_
  refine gk_then (hK153 _ _ ?_)
  refine gc_seq fun K155 hK155 => ?_
  refine gc_block ?_
  refine gc_sr fun K156 hK156 => ?_
  refine gas ?_
  refine gnt (hK156 _ _ ?_)
  refine gc_block ?_
  try simp only [sL]
  refine gc_loopT ([(0, _), (1, _), (4, _), (5, _), (6, _), (9, _), (15, _), (45, _), (57, _)] : Env) (fun s : Nat × (List Value) × (List (List Int)) => (fun (i : Nat) (us3 : List Value) (rows3 : List (List Int)) => (([(10, .int .i64 (i : Int))] : Env), ([(2, own2U (.slice a n q) us3 rows3)] : List (Nat × Itm)), i ≤ n ∧ InvW n rows2 rows3 k2 i 0, n - i)) s.1 s.2.1 s.2.2) (0, _, _) (by repeat first | exact sub_nil | refine sub_cons rfl ?_) rfl ⟨Nat.zero_le _, invW_zero ho _⟩ ?_
  rintro ⟨i, us3, rows3⟩ hinv KL157 hKL157
  simp only [sU, sL] at hinv hKL157 ⊢
  obtain ⟨hi, hWi⟩ := hinv
  refine gc_seq fun K158 hK158 => ?_
  refine gc_sr fun K159 hK159 => ?_
  refine gm ?_
  refine gm ?_
  refine gv (qt_lss rfl rfl rfl) ?_
  refine gnt (hK159 _ _ ?_)
  refine gc_cond rfl (fun hc20 => ?_) (fun hc20 => ?_)
  ·try simp only [sA] at hc20
   refine gc_skip ?_
   refine gk_then (hK158 _ _ ?_)
   refine gc_seq fun K160 hK160 => ?_
   refine gc_block ?_
   refine gc_sr fun K161 hK161 => ?_
   refine gas ?_
   refine gnt (hK161 _ _ ?_)
   refine gc_block ?_
   try simp only [sL]
   refine gc_loopT ([(0, _), (1, _), (4, _), (5, _), (6, _), (9, _), (10, _), (15, _), (45, _), (57, _), (62, _)] : Env) (fun s : Nat × (List Value) × (List (List Int)) => (fun (j : Nat) (us4 : List Value) (rows4 : List (List Int)) => (([(11, .int .i64 (j : Int))] : Env), ([(2, own2U (.slice a n q) us4 rows4)] : List (Nat × Itm)), j ≤ n ∧ InvW n rows2 rows4 k2 i j, n - j)) s.1 s.2.1 s.2.2) (0, _, _) (by repeat first | exact sub_nil | refine sub_cons rfl ?_) rfl ⟨Nat.zero_le _, hWi⟩ ?_
   rintro ⟨j, us4, rows4⟩ hinv KL162 hKL162
   simp only [sU, sL] at hinv hKL162 ⊢
   obtain ⟨hj, hWj⟩ := hinv
   have hl4 := hWj.1.1
   refine gc_seq fun K163 hK163 => ?_
   refine gc_sr fun K164 hK164 => ?_
   refine gm ?_
   refine gm ?_
   refine gv (qt_lss rfl rfl rfl) ?_
   refine gnt (hK164 _ _ ?_)
   refine gc_cond rfl (fun hc21 => ?_) (fun hc21 => ?_)
   ·try simp only [sA] at hc21
    refine gc_skip ?_
    refine gk_then (hK163 _ _ ?_)
    refine gc_seq fun K165 hK165 => ?_
    refine gc_block ?_
    refine gc_seq fun K166 hK166 => ?_
    have hq1 := (hWj.1.2 i (by omega)).len
    have hq2 := (hWj.1.2 k2 (by omega)).len
    refine gc_region ?_
    refine gm ?_
    refine gm ?_
    refine gv (qti2 (fun w M => lenA_U (n := 2) rfl M)) ?_
    refine gv (qt_loadU (n := 2) rfl rfl underlying24 rfl rfl (by omega) (by omega)) ?_
    refine gm ?_
    refine gv (qt_index rfl rfl rfl ulE1 szE1 (fun w M => lenA_row (n := 2) rfl (by omega) (by omega) M) (by omega) (by omega)) ?_
    refine gv (qt_load1 rfl rfl underlying2 rfl (fun w M => mem_rowU (n := 2) M rfl (by omega) (by omega)) (by omega) (by omega)) ?_
    refine gv (qt_eql rfl rfl rfl) ?_
    refine g_splitv (.free rfl) rfl rfl (qt_move rfl rfl) (fun hs23_8 => ?_) (fun hs23_8 => ?_)
    ·try simp only [sA] at hs23_8
     refine gvh (qt_move rfl rfl) ?_
     refine gvh (qt_move rfl rfl) ?_
     refine gvh (qti2 (fun w M => lenA_U (n := 2) rfl M)) ?_
     refine gvh (qt_loadU (n := 2) rfl rfl underlying24 rfl rfl (by omega) (by omega)) ?_
     refine gvh (qt_move rfl rfl) ?_
     refine gvh (qt_index rfl rfl rfl ulE1 szE1 (fun w M => lenA_row (n := 2) rfl (by omega) (by omega) M) (by omega) (by omega)) ?_
     refine gvh (qt_load1 rfl rfl underlying2 rfl (fun w M => mem_rowU (n := 2) M rfl (by omega) (by omega)) (by omega) (by omega)) ?_
     refine gvh (qt_eql rfl rfl rfl) ?_
     refine gv (qt_pick_t rfl rfl rfl) ?_
     refine gnt (hK166 _ _ ?_)
     refine gc_cond rfl (fun hc22 => ?_) (fun hc22 => ?_)
     ·try simp only [sA] at hc22
      refine gc_region ?_
      refine gm ?_
      refine gm ?_
      refine gv (qti2 (fun w M => lenA_U (n := 2) rfl M)) ?_
      refine gv (qt_loadU (n := 2) rfl rfl underlying24 rfl rfl (by omega) (by omega)) ?_
      refine gm ?_
      refine gv (qt_index rfl rfl rfl ulE1 szE1 (fun w M => lenA_row (n := 2) rfl (by omega) (by omega) M) (by omega) (by omega)) ?_
      refine gop fun K167 hK167 => ?_
      refine go_storeU (n := 2) rfl rfl rfl rfl (by kernel_rfl) rfl (by omega) (by omega) (by omega) (by omega) ?_
      refine hK167 _ _ ?_
      refine g_nil ?_
      refine gk_block ?_
      refine gk_then (hK165 _ _ ?_)
      refine gc_region ?_
      refine gm ?_
      refine gv (qt_add rfl rfl rfl (by omega)) ?_
      refine gas ?_
      refine g_nil ?_
      refine gk_then (gk_take 3 ?_)
      refine gk_sub ?hs_168 (hKL162 (j + 1, _, _) ?hi_168 ?hm_168)
      case hs_168 => repeat first | exact sub_nil | refine sub_cons rfl ?_
      case hi_168 => first | exact ⟨by omega, invW_t hWj (by omega) (by omega) (by omega) (by assumption) (by assumption)⟩ | exact ⟨by omega, invW_f hWj (by omega) (by omega) (by omega) (fun h => by first | exact absurd h.1 (by assumption) | exact absurd h.2 (by assumption))⟩
      case hm_168 => omega
     try simp only [sA] at hc22
     refine gc_skip ?_
     refine gk_block ?_
     refine gk_then (hK165 _ _ ?_)
     refine gc_region ?_
     refine gm ?_
     refine gv (qt_add rfl rfl rfl (by omega)) ?_
     refine gas ?_
     refine g_nil ?_
     refine gk_then (gk_take 3 ?_)
     refine gk_sub ?hs_169 (hKL162 (j + 1, _, _) ?hi_169 ?hm_169)
     case hs_169 => repeat first | exact sub_nil | refine sub_cons rfl ?_
     case hi_169 => first | exact ⟨by omega, invW_t hWj (by omega) (by omega) (by omega) (by assumption) (by assumption)⟩ | exact ⟨by omega, invW_f hWj (by omega) (by omega) (by omega) (fun h => by first | exact absurd h.1 (by assumption) | exact absurd h.2 (by assumption))⟩
     case hm_169 => omega
    try simp only [sA] at hs23_8
    refine gsk ?_
    refine gsk ?_
    refine gsk ?_
    refine gsk ?_
    refine gsk ?_
    refine gsk ?_
    refine gsk ?_
    refine gsk ?_
    refine gv (qt_pick_f rfl rfl rfl) ?_
    refine gnt (hK166 _ _ ?_)
    refine gc_cond_f rfl ?_
    refine gc_skip ?_
    refine gk_block ?_
    refine gk_then (hK165 _ _ ?_)
    refine gc_region ?_
    refine gm ?_
    refine gv (qt_add rfl rfl rfl (by omega)) ?_
    refine gas ?_
    refine g_nil ?_
    refine gk_then (gk_take 3 ?_)
    refine gk_sub ?hs_170 (hKL162 (j + 1, _, _) ?hi_170 ?hm_170)
    case hs_170 => repeat first | exact sub_nil | refine sub_cons rfl ?_
    case hi_170 => first | exact ⟨by omega, invW_t hWj (by omega) (by omega) (by omega) (by assumption) (by assumption)⟩ | exact ⟨by omega, invW_f hWj (by omega) (by omega) (by omega) (fun h => by first | exact absurd h.1 (by assumption) | exact absurd h.2 (by assumption))⟩
    case hm_170 => omega
   try simp only [sA] at hc21
   refine gc_exit ?_
   refine gk_then_exit ?_
   refine gk_then_exit ?_
   refine gk_block_hit ?_
   refine gk_block ?_
   refine gk_then (hK160 _ _ ?_)
   refine gc_region ?_
   refine gm ?_
   refine gv (qt_add rfl rfl rfl (by omega)) ?_
   refine gas ?_
   refine g_nil ?_
   obtain rfl : n = j := by omega
   refine gk_then (gk_take 3 ?_)
   refine gk_sub ?hs_171 (hKL157 (i + 1, _, _) ?hi_171 ?hm_171)
   case hs_171 => repeat first | exact sub_nil | refine sub_cons rfl ?_
   case hi_171 => exact ⟨by omega, invW_row hWj⟩
   case hm_171 => omega
  try simp only [sA] at hc20
  refine gc_exit ?_
  refine gk_then_exit ?_
  refine gk_then_exit ?_
  refine gk_block_hit ?_
  refine gk_block ?_
  refine gk_then (hK155 _ _ ?_)
  refine gc_region ?_
  refine gm ?_
  refine gv (qt_add rfl rfl rfl (by omega)) ?_
  refine gas ?_
  refine g_nil ?_
  obtain rfl : n = i := by omega
  refine gk_then (gk_take 3 ?_)
  refine gk_sub ?hs_172 (hKL152 (k2 + 1, _, _) ?hi_172 ?hm_172)
  case hs_172 => repeat first | exact sub_nil | refine sub_cons rfl ?_
  case hi_172 => exact ⟨by omega, invW_end hWi hW⟩
  case hm_172 => omega
 try simp only [sA] at hc19
 refine gc_exit ?_
 refine gk_then_exit ?_
 refine gk_then_exit ?_
 refine gk_block_hit ?_
 refine gk_then (hK150 _ _ ?_)
 refine gc_sr fun K173 hK173 => ?_
 refine gm ?_
 refine gas ?_
 refine gnt (hK173 _ _ ?_)
 refine gc_ret ?_
 refine ret_1 rfl rfl  (fun w M => ?_)
 obtain rfl : n = k2 := by omega
 have hp := pre_end ho hW
 have hl2 : rows2.length = n := ho.1
 refine ⟨(rows2, a, q, us2), hp, ?_, ?_⟩
 ·show _ = Ending.returned (.slice a rows2.length q); rw [hl2]
 show Mem w0 _ [_, _, own2U (.slice a rows2.length q) us2 rows2]; rw [hl2]; exact mem_take 3 M
end Go.Proofs.Ytbiplocgenppoaa
