
/- Bijections as lists: the program's and the model's; their inverses. -/
import Derived.Test.YtgkfampgofjkfaaCong2
import Derived.Test.YtgkfampgofjkfaaSub
import Derived.Test.YtgkfampgofjkfaaTab
set_option linter.unusedSimpArgs false
set_option linter.unusedVariables false
set_option linter.unusedSectionVars false
namespace Go.Proofs.Ytgkfampgofjkfaa
open Go.RowKit


theorem seen_nodup (l : List Int) : ∀ k, k ≤ l.length → (seenOf (l.take k)).Nodup := by
  intro k
  induction k with
  | zero => intro _; simp [seenOf]
  | succ k ih =>
    intro hk
    have h := ih (by omega)
    rw [take_snoc (by omega), seenOf_snoc]
    by_cases hm : l.getD k 0 ∈ seenOf (l.take k)
    · rw [if_pos hm]; exact h
    · rw [if_neg hm, List.nodup_append]
      exact ⟨h, by simp, fun a ha b hb => by rw [List.mem_singleton.1 hb]; exact fun e => hm (e ▸ ha)⟩
theorem seen_cls (l : List Int) : ∀ k, k ≤ l.length → seenOf (clsTo l k) = upTo 0 (seenOf (l.take k)).length := by
  intro k
  induction k with
  | zero => intro _; simp [clsTo, seenOf, upTo]
  | succ k ih =>
    intro hk
    have h := ih (by omega)
    rw [clsTo_snoc, seenOf_snoc, h, take_snoc (by omega), seenOf_snoc]
    by_cases hm : l.getD k 0 ∈ seenOf (l.take k)
    · have := List.idxOf_lt_length_of_mem hm
      rw [if_pos hm, if_pos (mem_upTo (by omega) (by omega))]
    · have := List.idxOf_eq_length hm
      rw [if_neg hm, this, if_neg (not_mem_upTo (.inr (Int.le_refl _))), List.length_append, ← upTo_succ]; rfl
theorem ls_cls (l : List Int) : (lstL (clsOf l) (nC (clsOf l) (clsOf l).length)).length = (seenOf l).length := by
  rw [lstL_len]
  show (seenOf ((clsOf l).take _)).length = _
  rw [List.take_length]
  show (seenOf (clsTo l l.length)).length = _
  rw [seen_cls l _ (Nat.le_refl _), upTo_length, List.take_length]
noncomputable def imgT (n : Nat) (xs : List Int) : List Int := filTo (fun y => (y : Int) ∈ xs) (fun y => (y : Int)) n
theorem imgT_nodup (n : Nat) (xs : List Int) : (imgT n xs).Nodup := by
  unfold imgT filTo
  refine List.Pairwise.map _ (fun a b (h : a ≠ b) => ?_) (List.Pairwise.filter _ List.nodup_range)
  intro e; exact h (Int.ofNat.inj e)
theorem imgT_len {n : Nat} {xs : List Int} (h : AllP n xs) : (imgT n xs).length = (seenOf xs).length := by
  have h1 := seen_nodup xs xs.length (Nat.le_refl _)
  rw [List.take_length] at h1
  refine List.Perm.length_eq ((List.perm_ext_iff_of_nodup (imgT_nodup n xs) h1).2 fun a => ?_)
  rw [mem_seenOf]
  constructor
  · intro ha
    obtain ⟨j, _, hj, rfl⟩ := filTo_mem.1 ha
    exact hj
  · intro ha
    have := h a ha
    exact filTo_mem.2 ⟨a.toNat, by omega, by show ((a.toNat : Nat) : Int) ∈ xs; rw [Int.toNat_of_nonneg this.1]; exact ha, Int.toNat_of_nonneg this.1⟩
def bijP (n : Int) (xs : List Int) : Prop := (xs.length : Int) = n ∧ (seenOf xs).length = xs.length
theorem wf_all {n : Int} {xs : List Int} (h : AllP n xs) (hn : n ≤ 1000000) : ∀ x ∈ xs, (Lit.int .i64 x).wf = true := fun x hx => WalkArith.wf_i64 (by have := h x hx; omega)
def bkL (xs : List Int) (k : Nat) : List Int := (List.range k).foldl (fun l (j : Nat) => l.set (at0 xs (j : Int)).toNat (j : Int)) (List.replicate xs.length 0)
theorem bkL_zero (xs : List Int) : List.replicate xs.length 0 = bkL xs 0 := rfl
theorem bkL_succ (xs : List Int) (k : Nat) : (bkL xs k).set (at0 xs (k : Int)).toNat (k : Int) = bkL xs (k + 1) := by simp [bkL, List.range_succ, List.foldl_append]
theorem bkL_len (xs : List Int) : ∀ k, (bkL xs k).length = xs.length
  | 0 => by simp [bkL]
  | k + 1 => by rw [← bkL_succ, List.length_set, bkL_len xs k]
def ndTo (xs : List Int) (k : Nat) : Prop := ∀ i j : Nat, i < j → j < k → at0 xs (i : Int) ≠ at0 xs (j : Int)
theorem mem_takeA {xs : List Int} {k : Nat} (hk : k ≤ xs.length) {x : Int} : x ∈ xs.take k ↔ ∃ i : Nat, i < k ∧ at0 xs (i : Int) = x := by
  rw [List.mem_take_iff_getElem]
  constructor
  · rintro ⟨i, hi, rfl⟩
    refine ⟨i, by omega, ?_⟩
    rw [at0_nat]; simp [List.getD_eq_getElem?_getD, List.getElem?_eq_getElem (show i < xs.length by omega)]
  · rintro ⟨i, hi, rfl⟩
    refine ⟨i, by omega, ?_⟩
    rw [at0_nat]; simp [List.getD_eq_getElem?_getD, List.getElem?_eq_getElem (show i < xs.length by omega)]
theorem nd_zero (xs : List Int) : ndTo xs 0 := fun i j _ h => absurd h (by omega)
theorem nd_next {xs : List Int} {k : Nat} (hk : k < xs.length) (h : ndTo xs k) (hm : ¬ at0 xs (k : Int) ∈ xs.take k) : ndTo xs (k + 1) := fun i j hi hj e => by
  rcases Nat.lt_or_ge j k with h1 | h1
  · exact h i j hi h1 e
  · obtain rfl : j = k := by omega
    exact hm ((mem_takeA (by omega)).2 ⟨i, hi, e⟩)
theorem nd_not {xs : List Int} {k n : Nat} (hk : k < xs.length) (hn : k < n) (hm : at0 xs (k : Int) ∈ xs.take k) : ¬ ndTo xs n := fun h => by
  obtain ⟨i, hi, e⟩ := (mem_takeA (by omega)).1 hm
  exact h i k hi hn e
theorem seen_nd (l : List Int) : ∀ k, k ≤ l.length → ((seenOf (l.take k)).length = k ↔ ndTo l k) := by
  intro k
  induction k with
  | zero => intro _; exact ⟨fun _ => nd_zero l, fun _ => rfl⟩
  | succ k ih =>
    intro hk
    have h := ih (by omega)
    have hl := seenOf_len (l.take k)
    rw [List.length_take, Nat.min_eq_left (by omega)] at hl
    rw [take_snoc (by omega), seenOf_snoc]
    by_cases hm : l.getD k 0 ∈ seenOf (l.take k)
    · rw [if_pos hm]
      constructor
      · intro e; omega
      · intro e; exact absurd e (nd_not (k := k) (by omega) (by omega) (by rw [at0_nat]; exact (mem_seenOf _ _).1 hm))
    · rw [if_neg hm, List.length_append, List.length_singleton]
      constructor
      · intro e; exact nd_next (by omega) (h.1 (by omega)) (by rw [at0_nat]; exact fun e => hm ((mem_seenOf _ _).2 e))
      · intro e; rw [h.2 fun i j hi hj => e i j hi (by omega)]
structure BijL (n : Nat) (xs : List Int) : Prop where
  len : xs.length = n
  all : AllP n xs
  nd : ndTo xs n
theorem bijP_iff {n : Nat} {xs : List Int} (hx : AllP n xs) : bijP n xs ↔ BijL n xs := by
  have h := seen_nd xs xs.length (Nat.le_refl _)
  rw [List.take_length] at h
  constructor
  · rintro ⟨h1, h2⟩
    have e : xs.length = n := by omega
    exact ⟨e, hx, e ▸ h.1 h2⟩
  · rintro ⟨h1, _, h2⟩
    exact ⟨by omega, h.2 (h1 ▸ h2)⟩
theorem filTo_full {p : Nat → Prop} {φ : Nat → Int} : ∀ k, (filTo p φ k).length = k → ∀ j, j < k → p j
  | 0, _, j, hj => absurd hj (by omega)
  | k + 1, h, j, hj => by
    have hl := filTo_len p φ k
    by_cases hp : p k
    · rw [← filTo_t hp, List.length_append, List.length_singleton] at h
      rcases Nat.lt_or_ge j k with h1 | h1
      · exact filTo_full (φ := φ) k (by omega) j h1
      · obtain rfl : j = k := by omega
        exact hp
    · rw [← filTo_f hp] at h; omega
theorem BijL.onto {n : Nat} {xs : List Int} (B : BijL n xs) {j : Nat} (hj : j < n) : ∃ k : Nat, k < n ∧ at0 xs (k : Int) = (j : Int) := by
  have h := seen_nd xs xs.length (Nat.le_refl _)
  rw [List.take_length] at h
  have h1 := imgT_len (n := n) B.all
  rw [h.2 (B.len ▸ B.nd), B.len] at h1
  have h2 := filTo_full n h1 j hj
  have h3 : (j : Int) ∈ xs.take n := by rw [← B.len, List.take_length]; exact h2
  exact (mem_takeA (by rw [B.len]; exact Nat.le_refl _)).1 h3
theorem bkL_nat {xs : List Int} (hx : AllP xs.length xs) (hn : ndTo xs xs.length) : ∀ k, k ≤ xs.length → ∀ i : Nat, i < k → at0 (bkL xs k) (at0 xs (i : Int)) = (i : Int) := by
  intro k
  induction k with
  | zero => intro _ i hi; exact absurd hi (by omega)
  | succ k ih =>
    intro hk i hi
    have hk1 := allP_at hx (k := k) (by omega)
    have hi1 := allP_at hx (k := i) (by omega)
    rw [← bkL_succ]
    show ((bkL xs k).set _ _).getD _ 0 = _
    rw [getD_set _ _ _ _ (by rw [bkL_len]; omega)]
    rcases Nat.lt_or_ge i k with h1 | h1
    · have hne := hn i k h1 (by omega)
      rw [if_neg (by omega)]
      exact ih (by omega) i h1
    · obtain rfl : i = k := by omega
      rw [if_pos rfl]
theorem BijL.bk {n : Nat} {xs : List Int} (B : BijL n xs) {i : Nat} (hi : i < n) : at0 (bkL xs xs.length) (at0 xs (i : Int)) = (i : Int) :=
  bkL_nat (by rw [B.len]; exact B.all) (by rw [B.len]; exact B.nd) _ (Nat.le_refl _) i (by rw [B.len]; exact hi)
theorem BijL.at {n : Nat} {xs : List Int} (B : BijL n xs) {j : Nat} (hj : j < n) : 0 ≤ at0 (bkL xs xs.length) (j : Int) ∧ at0 (bkL xs xs.length) (j : Int) < n ∧ at0 xs (at0 (bkL xs xs.length) (j : Int)) = (j : Int) := by
  obtain ⟨k, hk, e⟩ := B.onto hj
  have h := B.bk hk
  rw [e] at h
  rw [h]
  exact ⟨by omega, by omega, e⟩
theorem BijL.eq {n : Nat} {xs : List Int} (B : BijL n xs) {j k : Nat} (hj : j < n) (hk : k < n) : at0 (bkL xs xs.length) (j : Int) = (k : Int) ↔ j = (at0 xs (k : Int)).toNat := by
  have hr := allP_at B.all (k := k) (by rw [B.len]; exact hk)
  constructor
  · intro e
    have h := (B.at hj).2.2
    rw [e] at h; omega
  · rintro rfl
    rw [Int.toNat_of_nonneg hr.1]; exact B.bk hk
theorem BijL.rng {n : Nat} {xs : List Int} (B : BijL n xs) {k : Nat} (hk : k < n) : 0 ≤ at0 xs (k : Int) ∧ at0 xs (k : Int) < n := allP_at B.all (by rw [B.len]; exact hk)
theorem BijL.all2 {n : Nat} {xs : List Int} (B : BijL n xs) : AllP xs.length xs := by rw [B.len]; exact B.all
def CapV : Value → Prop
  | .slice _ n c => n ≤ c
  | _ => True
theorem rd_cut {w : World} {a : Option Addr} {n cap k : Nat} {xs : List Int} (h : Rd w (.slice a n cap) xs) (hk : k ≤ xs.length) : Rd w (.slice a k cap) (xs.take k) := by
  obtain ⟨a', cap', hv, hl, hc⟩ := h
  simp only [Value.slice.injEq] at hv
  obtain ⟨rfl, rfl, rfl⟩ := hv
  have e : (xs.take k).length = k := by rw [List.length_take]; omega
  refine ⟨a, cap, by rw [e], by omega, fun j hj => ?_⟩
  rw [e] at hj
  obtain ⟨b, off, rfl, hb, hcell⟩ := hc j (by omega)
  refine ⟨b, off, rfl, hb, fun i hi => ?_⟩
  rw [e] at hi
  rw [hcell i (by omega)]
  simp [List.getD_eq_getElem?_getD, List.getElem?_take, hi]
theorem cap_own1 {w0 w : World} {is : List Itm} {n L cap : Nat} {a : Option Addr} {xs : List Int} (M : Mem w0 w is) (h : is[n]? = some (own1I (.slice a L cap) xs)) : CapV (.slice a L cap) := by
  obtain ⟨S, hS, hb⟩ := mem_get M h
  have hb : Own1 (.slice a L cap) xs w S := hb
  rcases hb.1.1.2 with ⟨hv, _⟩ | ⟨g, cap', cur, hv, _, _, hle, _⟩
  · simp only [Value.slice.injEq] at hv
    obtain ⟨_, rfl, rfl⟩ := hv
    exact Nat.le_refl _
  · simp only [Value.slice.injEq] at hv
    obtain ⟨_, rfl, rfl⟩ := hv
    have hL := hb.1.1.1
    exact hle
section
variable {w0 : World} {is : List Itm} {o : Oper} {e : Env}
theorem qt_cutR {x y : Operand} {t : TypeId} {a : Option Addr} {k L cap : Nat} {xs : List Int} (hop : o.op = .slice t x none (some y) none) (hx : evo e x = some (.slice a L cap)) (hy : evo e y = some (.int .i64 (k : Int))) (ht : Try.prog.underlying t = some (.slice 2))
    (hu : ∀ w, Mem w0 w is → Rd w (.slice a L cap) xs) (h1 : k ≤ xs.length) (h0 : 0 < xs.length) (h3 : L ≤ cap) : QV w0 is o e (.slice a k cap) :=
  fun w ac M F => by
    have hx := F _ _ hx; have hy := F _ _ hy
    obtain ⟨a', cap', hv, _, hc⟩ := hu w M
    simp only [Value.slice.injEq] at hv
    obtain ⟨rfl, rfl, rfl⟩ := hv
    obtain ⟨b, off, rfl, _⟩ := hc 0 h0
    have hi : (Try.prog.info? 2).map (·.size) = some 1 := by kernel_rfl
    obtain ⟨inf, i1, i2⟩ := Option.map_eq_some_iff.1 hi
    simp [execOp, hop, hx, hy, Instr.sliceAt, Instr.slice, run_underlying ht, Instr.sliceBounds, Instr.sliceBound, asIntOf, Sem.run_bind, Sem.run_pure, sizeOf, typeInfo, i1, i2]
    rw [if_pos (by omega), if_neg (by omega)]; rfl
end

set_option maxHeartbeats 1000000 in
set_option maxRecDepth 100000 in
theorem isBijB_any (w : World) (v : Value) (xs : List Int) (n : Int) (h : Rd w v xs) (hx : AllP n xs) (hn : n ≤ 256) :
    Calls Try.prog 41 #[v, .int .i64 n] w (RetB w (bP (bijP n xs))) := by
  obtain ⟨va, vc, rfl⟩ := rd_form h
  have hil := ls_cls xs
  go_enter Try.func41, Try.ntmps41
  refine gc_enter (N := 17) rfl (look_cons (k := 0) rfl (look_cons (k := 1) rfl (look_nil _))) ?_
  refine gc_seq fun K1 hK1 => ?_
  refine gc_region ?_
  refine g_v (.free rfl) rfl rfl (qt_assign rfl rfl) ?_
  refine g_nil ?_
  refine gk_then (hK1 _ _ ?_)
  refine gc_seq fun K2 hK2 => ?_
  refine gc_region ?_
  refine g_v (.free rfl) rfl rfl (qt_move rfl rfl) ?_
  refine g_v (.free rfl) rfl rfl (qt_len rfl rfl ulE1 (fun w M => lenV_rd h)) ?_
  refine g_v (.free rfl) rfl rfl (qt_move rfl rfl) ?_
  refine g_v (.free rfl) rfl rfl (qt_eql rfl rfl rfl) ?_
  refine g_splitv (.free rfl) rfl rfl (qt_move rfl rfl) (fun hs1_4 => ?_) (fun hs1_4 => ?_)
  · try simp only [decide_eq_true_eq, decide_eq_false_iff_not, Bool.not_eq_true', Bool.not_eq_false', Bool.not_eq_eq_eq_not, Bool.not_true, Bool.not_false, ne_eq, Decidable.not_not, Classical.not_not] at hs1_4
    refine g_v (.held _ _ _ rfl rfl rfl) rfl rfl (qt_move rfl rfl) ?_
    refine g_op (.held _ _ _ rfl rfl rfl) fun K4 hK4 => ?_
    refine go_callL rfl rfl rfl Try.func73 rfl (by decide) rfl (fun w M => partBy_any w _ _ (mem_rd M h) (wf_all hx (by omega))) ?_
    intro va3 vc3
    refine hK4 _ _ ?_
    refine g_op (.held _ _ _ rfl rfl rfl) fun K6 hK6 => ?_
    refine go_callL rfl rfl rfl Try.func74 rfl (by decide) rfl (fun w M => leastsP_any w _ _ ((mem_own1 (n := 0) M rfl).rd) (cls_ker (ker_cls2 xs))) ?_
    intro va5 vc5
    refine hK6 _ _ ?_
    refine g_v (.held _ _ _ rfl rfl rfl) rfl rfl (qt_len rfl rfl ulE1 (fun w M => lenV_own1 (n := 1) rfl M)) ?_
    refine g_v (.held _ _ _ rfl rfl rfl) rfl rfl (qt_move rfl rfl) ?_
    refine g_v (.held _ _ _ rfl rfl rfl) rfl rfl (qt_eql rfl rfl rfl) ?_
    refine g_v (.free rfl) rfl rfl (qt_pick_t rfl rfl rfl) ?_
    refine g_v (.free rfl) rfl rfl (qt_assign rfl rfl) ?_
    refine g_nil ?_
    refine gk_then (hK2 _ _ ?_)
    refine gc_ret ?_
    refine ret_1 rfl rfl  (fun w M => ?_)
    rw [show bP (bijP n xs) = decide (((lstL (clsOf xs) (nC (clsOf xs) (clsOf xs).length)).length : Int) = n) from by rw [← bP_dec]; exact bP_congr ⟨fun hq => by rw [hil, hq.2, hq.1], fun hq => ⟨hs1_4, by omega⟩⟩]; exact ⟨rfl, M.1⟩
  · try simp only [decide_eq_true_eq, decide_eq_false_iff_not, Bool.not_eq_true', Bool.not_eq_false', Bool.not_eq_eq_eq_not, Bool.not_true, Bool.not_false, ne_eq, Decidable.not_not, Classical.not_not] at hs1_4
    refine g_skip (.not _ _ _ _ rfl rfl rfl rfl) rfl rfl ?_
    refine g_skip (.not _ _ _ _ rfl rfl rfl rfl) rfl rfl ?_
    refine g_skip (.not _ _ _ _ rfl rfl rfl rfl) rfl rfl ?_
    refine g_skip (.not _ _ _ _ rfl rfl rfl rfl) rfl rfl ?_
    refine g_skip (.not _ _ _ _ rfl rfl rfl rfl) rfl rfl ?_
    refine g_skip (.not _ _ _ _ rfl rfl rfl rfl) rfl rfl ?_
    refine g_v (.free rfl) rfl rfl (qt_pick_f rfl rfl rfl) ?_
    refine g_v (.free rfl) rfl rfl (qt_assign rfl rfl) ?_
    refine g_nil ?_
    refine gk_then (hK2 _ _ ?_)
    refine gc_ret ?_
    refine ret_1 rfl rfl  (fun w M => ?_)
    rw [bP_f fun hq => hs1_4 hq.1]; exact ⟨rfl, M.1⟩

set_option maxHeartbeats 1000000 in
set_option maxRecDepth 100000 in
theorem specInj_any (w : World) (v : Value) (xs : List Int) (h : Rd w v xs) (hc : CapV v) :
    Calls Try.prog 69 #[v] w (RetB w (bP (ndTo xs xs.length))) := by
  obtain ⟨va, vc, rfl⟩ := rd_form h
  have hxl : xs.length ≤ 17592186044415 := by obtain ⟨_, _, _, hl, _⟩ := h; exact hl
  have hcap : xs.length ≤ vc := hc
  go_enter Try.func69, Try.ntmps69
  refine gc_enter (N := 18) rfl (look_cons (k := 0) rfl (look_nil _)) ?_
  refine gc_seq fun K1 hK1 => ?_
  refine gc_region ?_
  refine g_v (.free rfl) rfl rfl (qt_assign rfl rfl) ?_
  refine g_nil ?_
  refine gk_then (hK1 _ _ ?_)
  refine gc_seq fun K2 hK2 => ?_
  refine gc_seq fun K3 hK3 => ?_
  refine gc_region ?_
  refine g_v (.free rfl) rfl rfl (qt_assign rfl rfl) ?_
  refine g_nil ?_
  refine gk_then (hK3 _ _ ?_)
  refine gc_block ?_
  try simp only [List.nil_append, List.cons_append, List.append_assoc, List.set_cons_succ, List.set_cons_zero]
  refine gc_loop ([(0, _)] : Env) (fun s : Nat => (fun (k : Nat) => ([(3, .int .i64 (k : Int))] : Env)) s) (fun s : Nat => (fun (k : Nat) => ([] : List (Nat × Itm))) s) (fun s : Nat => (fun (k : Nat) => k ≤ xs.length ∧ ndTo xs k) s) (fun s : Nat => (fun (k : Nat) => xs.length - k) s) (0) (sub_cons rfl (sub_cons rfl sub_nil)) rfl ⟨Nat.zero_le _, nd_zero _⟩ ?_
  rintro k hinv KL4 hKL4
  simp only [updL, List.foldl_cons, List.foldl_nil, List.set_cons_succ, List.set_cons_zero, List.cons_append, List.nil_append] at hinv hKL4 ⊢
  obtain ⟨hk, hnd⟩ := hinv
  refine gc_seq fun K5 hK5 => ?_
  refine gc_seq fun K6 hK6 => ?_
  refine gc_region ?_
  refine g_v (.free rfl) rfl rfl (qt_move rfl rfl) ?_
  refine g_v (.free rfl) rfl rfl (qt_move rfl rfl) ?_
  refine g_v (.free rfl) rfl rfl (qt_len rfl rfl ulE1 (fun w M => lenV_rd h)) ?_
  refine g_v (.free rfl) rfl rfl (qt_lss rfl rfl rfl) ?_
  refine g_nil ?_
  refine gk_then (hK6 _ _ ?_)
  refine gc_cond rfl (fun hc0 => ?_) (fun hc0 => ?_)
  · try simp only [decide_eq_true_eq, decide_eq_false_iff_not, Bool.not_eq_true', Bool.not_eq_false', Bool.not_eq_eq_eq_not, Bool.not_true, Bool.not_false, ne_eq, Decidable.not_not, Classical.not_not] at hc0
    refine gc_skip ?_
    refine gk_then (hK5 _ _ ?_)
    refine gc_seq fun K7 hK7 => ?_
    refine gc_block ?_
    refine gc_seq fun K8 hK8 => ?_
    refine gc_draw (by kernel_rfl) ?_
    refine gd_v (.free rfl) rfl rfl (qt_move rfl rfl) ?_
    refine gd_v (.free rfl) rfl rfl (qt_move rfl rfl) ?_
    refine gd_v (.free rfl) rfl rfl (qt_cutR rfl rfl rfl Try.underlying22 (fun w M => mem_rd M h) (by omega) (by omega) (by omega)) ?_
    refine gd_v (.free rfl) rfl rfl (qt_move rfl rfl) ?_
    refine gd_v (.free rfl) rfl rfl (qt_move rfl rfl) ?_
    refine gd_v (.free rfl) rfl rfl (qt_index rfl rfl rfl ulE1 szE1 (fun w M => lenA_rd h) (by omega) (by omega)) ?_
    refine gd_v (.free rfl) rfl rfl (qt_load1 rfl rfl Try.underlying2 rfl (fun w M => mem_rd M h) (by omega) (by omega)) ?_
    refine gd_q (.free rfl) rfl rfl (qt_call rfl Try.func92 rfl (by decide) rfl (fun w M => specHas2_any w _ _ _ (rd_cut (mem_rd M h) (by omega)))) ?_
    refine gd_nil ?_
    refine gk_then (hK8 _ _ ?_)
    refine gc_cond rfl (fun hc1 => ?_) (fun hc1 => ?_)
    · try simp only [decide_eq_true_eq, decide_eq_false_iff_not, Bool.not_eq_true', Bool.not_eq_false', Bool.not_eq_eq_eq_not, Bool.not_true, Bool.not_false, ne_eq, Decidable.not_not, Classical.not_not] at hc1
      refine gc_seq fun K9 hK9 => ?_
      refine gc_region ?_
      refine g_v (.free rfl) rfl rfl (qt_assign rfl rfl) ?_
      refine g_nil ?_
      refine gk_then (hK9 _ _ ?_)
      refine gc_ret ?_
      refine gk_block_ret ?_
      refine gk_then_ret ?_
      refine gk_then_ret ?_
      refine gk_block_ret ?_
      refine gk_then_ret ?_
      refine ret_1 rfl rfl  (fun w M => ?_)
      rw [bP_f (nd_not (xs := xs) (k := k) (by omega) (by omega) (by simpa only [Int.toNat_natCast] using bP_t' hc1))]; exact ⟨rfl, M.1⟩
    · try simp only [decide_eq_true_eq, decide_eq_false_iff_not, Bool.not_eq_true', Bool.not_eq_false', Bool.not_eq_eq_eq_not, Bool.not_true, Bool.not_false, ne_eq, Decidable.not_not, Classical.not_not] at hc1
      refine gc_skip ?_
      refine gk_block ?_
      refine gk_then (hK7 _ _ ?_)
      refine gc_region ?_
      refine g_v (.free rfl) rfl rfl (qt_move rfl rfl) ?_
      refine g_v (.free rfl) rfl rfl (qt_add rfl rfl rfl (by omega)) ?_
      refine g_v (.free rfl) rfl rfl (qt_assign rfl rfl) ?_
      refine g_nil ?_
      refine gk_then (gk_take 0 ?_)
      refine gk_sub ?hs_10 (hKL4 (k + 1) ?hi_10 ?hm_10)
      case hs_10 => exact (sub_cons rfl (sub_cons rfl sub_nil))
      case hi_10 => exact ⟨by omega, nd_next (by omega) hnd (by simpa only [Int.toNat_natCast] using bP_f' hc1)⟩
      case hm_10 => omega
  · try simp only [decide_eq_true_eq, decide_eq_false_iff_not, Bool.not_eq_true', Bool.not_eq_false', Bool.not_eq_eq_eq_not, Bool.not_true, Bool.not_false, ne_eq, Decidable.not_not, Classical.not_not] at hc0
    refine gc_exit ?_
    refine gk_then_exit ?_
    refine gk_then_exit ?_
    refine gk_block_hit ?_
    refine gk_then (hK2 _ _ ?_)
    refine gc_seq fun K11 hK11 => ?_
    refine gc_region ?_
    refine g_v (.free rfl) rfl rfl (qt_assign rfl rfl) ?_
    refine g_nil ?_
    refine gk_then (hK11 _ _ ?_)
    refine gc_ret ?_
    refine ret_1 rfl rfl  (fun w M => ?_)
    obtain rfl : k = xs.length := by omega
    rw [bP_t hnd]; exact ⟨rfl, M.1⟩

set_option maxHeartbeats 1000000 in
set_option maxRecDepth 100000 in
theorem specBijB_any (w : World) (m : Int) (v : Value) (xs : List Int) (n : Nat) (h : Rd w v xs) (hc : CapV v) (hm : m = (n : Int)) :
    Calls Try.prog 35 #[.int .i64 m, v] w (RetB w (bP (BijL n xs))) := by
  obtain ⟨va, vc, rfl⟩ := rd_form h
  subst hm
  go_enter Try.func35, Try.ntmps35
  refine gc_enter (N := 18) rfl (look_cons (k := 0) rfl (look_cons (k := 1) rfl (look_nil _))) ?_
  refine gc_seq fun K1 hK1 => ?_
  refine gc_region ?_
  refine g_v (.free rfl) rfl rfl (qt_assign rfl rfl) ?_
  refine g_nil ?_
  refine gk_then (hK1 _ _ ?_)
  refine gc_seq fun K2 hK2 => ?_
  refine gc_region ?_
  refine g_v (.free rfl) rfl rfl (qt_move rfl rfl) ?_
  refine g_v (.free rfl) rfl rfl (qt_len rfl rfl ulE1 (fun w M => lenV_rd h)) ?_
  refine g_v (.free rfl) rfl rfl (qt_move rfl rfl) ?_
  refine g_v (.free rfl) rfl rfl (qt_eql rfl rfl rfl) ?_
  refine g_splitv (.free rfl) rfl rfl (qt_move rfl rfl) (fun hs1_4 => ?_) (fun hs1_4 => ?_)
  · try simp only [decide_eq_true_eq, decide_eq_false_iff_not, Bool.not_eq_true', Bool.not_eq_false', Bool.not_eq_eq_eq_not, Bool.not_true, Bool.not_false, ne_eq, Decidable.not_not, Classical.not_not] at hs1_4
    refine g_v (.held _ _ _ rfl rfl rfl) rfl rfl (qt_move rfl rfl) ?_
    refine g_v (.held _ _ _ rfl rfl rfl) rfl rfl (qt_move rfl rfl) ?_
    refine g_q (.held _ _ _ rfl rfl rfl) rfl rfl (qt_call rfl Try.func68 rfl (by decide) rfl (fun w M => specMap_any w _ _ _ (decide (AllP n xs)) (mem_rd M h) (rfl))) ?_
    refine g_v (.free rfl) rfl rfl (qt_pick_t rfl rfl rfl) ?_
    refine g_splitv (.free rfl) rfl rfl (qt_move rfl rfl) (fun hs1_9 => ?_) (fun hs1_9 => ?_)
    · try simp only [decide_eq_true_eq, decide_eq_false_iff_not, Bool.not_eq_true', Bool.not_eq_false', Bool.not_eq_eq_eq_not, Bool.not_true, Bool.not_false, ne_eq, Decidable.not_not, Classical.not_not] at hs1_9
      refine g_v (.held _ _ _ rfl rfl rfl) rfl rfl (qt_move rfl rfl) ?_
      refine g_q (.held _ _ _ rfl rfl rfl) rfl rfl (qt_call rfl Try.func69 rfl (by decide) rfl (fun w M => specInj_any w _ _ (mem_rd M h) (by first | assumption | omega))) ?_
      refine g_v (.free rfl) rfl rfl (qt_pick_t rfl rfl rfl) ?_
      refine g_v (.free rfl) rfl rfl (qt_assign rfl rfl) ?_
      refine g_nil ?_
      refine gk_then (hK2 _ _ ?_)
      refine gc_ret ?_
      refine ret_1 rfl rfl  (fun w M => ?_)
      rw [show bP (BijL n xs) = bP (ndTo xs xs.length) from bP_congr ⟨fun hq => by rw [hq.len]; exact hq.nd, fun hq => ⟨by omega, hs1_9, (show xs.length = n by omega) ▸ hq⟩⟩]; exact ⟨rfl, M.1⟩
    · try simp only [decide_eq_true_eq, decide_eq_false_iff_not, Bool.not_eq_true', Bool.not_eq_false', Bool.not_eq_eq_eq_not, Bool.not_true, Bool.not_false, ne_eq, Decidable.not_not, Classical.not_not] at hs1_9
      refine g_skip (.not _ _ _ _ rfl rfl rfl rfl) rfl rfl ?_
      refine g_skip (.not _ _ _ _ rfl rfl rfl rfl) rfl rfl ?_
      refine g_v (.free rfl) rfl rfl (qt_pick_f rfl rfl rfl) ?_
      refine g_v (.free rfl) rfl rfl (qt_assign rfl rfl) ?_
      refine g_nil ?_
      refine gk_then (hK2 _ _ ?_)
      refine gc_ret ?_
      refine ret_1 rfl rfl  (fun w M => ?_)
      rw [bP_f fun hq => hs1_9 hq.all]; exact ⟨rfl, M.1⟩
  · try simp only [decide_eq_true_eq, decide_eq_false_iff_not, Bool.not_eq_true', Bool.not_eq_false', Bool.not_eq_eq_eq_not, Bool.not_true, Bool.not_false, ne_eq, Decidable.not_not, Classical.not_not] at hs1_4
    refine g_skip (.not _ _ _ _ rfl rfl rfl rfl) rfl rfl ?_
    refine g_skip (.not _ _ _ _ rfl rfl rfl rfl) rfl rfl ?_
    refine g_skip (.not _ _ _ _ rfl rfl rfl rfl) rfl rfl ?_
    refine g_v (.free rfl) rfl rfl (qt_pick_f rfl rfl rfl) ?_
    refine g_v (.free rfl) rfl rfl (qt_move rfl rfl) ?_
    refine g_skip (.not _ _ _ _ rfl rfl rfl rfl) rfl rfl ?_
    refine g_skip (.not _ _ _ _ rfl rfl rfl rfl) rfl rfl ?_
    refine g_v (.free rfl) rfl rfl (qt_pick_f rfl rfl rfl) ?_
    refine g_v (.free rfl) rfl rfl (qt_assign rfl rfl) ?_
    refine g_nil ?_
    refine gk_then (hK2 _ _ ?_)
    refine gc_ret ?_
    refine ret_1 rfl rfl  (fun w M => ?_)
    rw [bP_f fun hq => hs1_4 (by have := hq.len; omega)]; exact ⟨rfl, M.1⟩

set_option maxHeartbeats 1000000 in
set_option maxRecDepth 100000 in
theorem specBackB_any (w : World) (v : Value) (xs : List Int) (h : Rd w v xs) (hx : AllP xs.length xs) :
    Calls Try.prog 70 #[v] w (RetL w (bkL xs xs.length)) := by
  obtain ⟨va, vc, rfl⟩ := rd_form h
  have hxl : xs.length ≤ 17592186044415 := by obtain ⟨_, _, _, hl, _⟩ := h; exact hl
  go_enter Try.func70, Try.ntmps70
  refine gc_enter (N := 22) rfl (look_cons (k := 0) rfl (look_nil _)) ?_
  refine gc_seq fun K1 hK1 => ?_
  refine gc_region ?_
  refine g_v (.free rfl) rfl rfl (qt_assign rfl rfl) ?_
  refine g_nil ?_
  refine gk_then (hK1 _ _ ?_)
  refine gc_seq fun K2 hK2 => ?_
  refine gc_region ?_
  refine g_v (.free rfl) rfl rfl (qt_move rfl rfl) ?_
  refine g_v (.free rfl) rfl rfl (qt_len rfl rfl ulE1 (fun w M => lenV_rd h)) ?_
  refine g_op (.free rfl) fun K4 hK4 => ?_
  refine go_make1 rfl rfl rfl Try.underlying22 rfl rfl (by omega) ?_
  intro B3
  refine hK4 _ _ ?_
  refine g_v (.free rfl) rfl rfl (qt_assign rfl rfl) ?_
  refine g_nil ?_
  refine gk_then (hK2 _ _ ?_)
  refine gc_seq fun K5 hK5 => ?_
  refine gc_seq fun K6 hK6 => ?_
  refine gc_region ?_
  refine g_v (.free rfl) rfl rfl (qt_assign rfl rfl) ?_
  refine g_nil ?_
  refine gk_then (hK6 _ _ ?_)
  refine gc_block ?_
  rw [bkL_zero xs]
  try simp only [List.nil_append, List.cons_append, List.append_assoc, List.set_cons_succ, List.set_cons_zero]
  refine gc_loop ([(0, _), (2, _), (3, _)] : Env) (fun s : Nat => (fun (k : Nat) => ([(4, .int .i64 (k : Int))] : Env)) s) (fun s : Nat => (fun (k : Nat) => ([(0, own1I (.slice (some ⟨B3, 0, none⟩) xs.length xs.length) (bkL xs k))] : List (Nat × Itm))) s) (fun s : Nat => (fun (k : Nat) => k ≤ xs.length) s) (fun s : Nat => (fun (k : Nat) => xs.length - k) s) (0) (sub_cons rfl (sub_cons rfl (sub_cons rfl (sub_cons rfl sub_nil)))) rfl (Nat.zero_le _) ?_
  rintro k hinv KL7 hKL7
  simp only [updL, List.foldl_cons, List.foldl_nil, List.set_cons_succ, List.set_cons_zero, List.cons_append, List.nil_append] at hinv hKL7 ⊢
  have hk := hinv
  have hbl := bkL_len xs k
  refine gc_seq fun K8 hK8 => ?_
  refine gc_seq fun K9 hK9 => ?_
  refine gc_region ?_
  refine g_v (.free rfl) rfl rfl (qt_move rfl rfl) ?_
  refine g_v (.free rfl) rfl rfl (qt_move rfl rfl) ?_
  refine g_v (.free rfl) rfl rfl (qt_len rfl rfl ulE1 (fun w M => lenV_rd h)) ?_
  refine g_v (.free rfl) rfl rfl (qt_lss rfl rfl rfl) ?_
  refine g_nil ?_
  refine gk_then (hK9 _ _ ?_)
  refine gc_cond rfl (fun hc0 => ?_) (fun hc0 => ?_)
  · try simp only [decide_eq_true_eq, decide_eq_false_iff_not, Bool.not_eq_true', Bool.not_eq_false', Bool.not_eq_eq_eq_not, Bool.not_true, Bool.not_false, ne_eq, Decidable.not_not, Classical.not_not] at hc0
    refine gc_skip ?_
    refine gk_then (hK8 _ _ ?_)
    refine gc_seq fun K10 hK10 => ?_
    refine gc_block ?_
    have hk1 := allP_at hx (k := k) (by omega)
    refine gc_region ?_
    refine g_v (.free rfl) rfl rfl (qt_move rfl rfl) ?_
    refine g_v (.free rfl) rfl rfl (qt_move rfl rfl) ?_
    refine g_v (.free rfl) rfl rfl (qt_move rfl rfl) ?_
    refine g_v (.free rfl) rfl rfl (qt_index rfl rfl rfl ulE1 szE1 (fun w M => lenA_rd h) (by omega) (by omega)) ?_
    refine g_v (.free rfl) rfl rfl (qt_load1 rfl rfl Try.underlying2 rfl (fun w M => mem_rd M h) (by omega) (by omega)) ?_
    refine g_v (.free rfl) rfl rfl (qt_move rfl rfl) ?_
    refine g_v (.free rfl) rfl rfl (qt_index rfl rfl rfl ulE1 szE1 (fun w M => lenA_own1 (n := 0) rfl M) (by omega) (by omega)) ?_
    refine g_op (.free rfl) fun K11 hK11 => ?_
    refine go_store1 (n := 0) rfl rfl rfl rfl (by kernel_rfl) rfl (by omega) (by omega) ?_
    refine hK11 _ _ ?_
    refine g_nil ?_
    refine gk_block ?_
    refine gk_then (hK10 _ _ ?_)
    refine gc_region ?_
    refine g_v (.free rfl) rfl rfl (qt_move rfl rfl) ?_
    refine g_v (.free rfl) rfl rfl (qt_add rfl rfl rfl (by omega)) ?_
    refine g_v (.free rfl) rfl rfl (qt_assign rfl rfl) ?_
    refine g_nil ?_
    rw [bkL_succ]
    refine gk_then (gk_take 1 ?_)
    refine gk_sub ?hs_12 (hKL7 (k + 1) ?hi_12 ?hm_12)
    case hs_12 => exact (sub_cons rfl (sub_cons rfl (sub_cons rfl (sub_cons rfl sub_nil))))
    case hi_12 => omega
    case hm_12 => omega
  · try simp only [decide_eq_true_eq, decide_eq_false_iff_not, Bool.not_eq_true', Bool.not_eq_false', Bool.not_eq_eq_eq_not, Bool.not_true, Bool.not_false, ne_eq, Decidable.not_not, Classical.not_not] at hc0
    refine gc_exit ?_
    refine gk_then_exit ?_
    refine gk_then_exit ?_
    refine gk_block_hit ?_
    refine gk_then (hK5 _ _ ?_)
    refine gc_seq fun K13 hK13 => ?_
    refine gc_region ?_
    refine g_v (.free rfl) rfl rfl (qt_move rfl rfl) ?_
    refine g_v (.free rfl) rfl rfl (qt_assign rfl rfl) ?_
    refine g_nil ?_
    refine gk_then (hK13 _ _ ?_)
    refine gc_ret ?_
    refine ret_1 rfl rfl  (fun w M => ?_)
    obtain rfl : k = xs.length := by omega
    have hq : bkL xs xs.length = bkL xs xs.length := rfl
    exact ⟨_, rfl, mem_own1 (n := 0) M rfl, M.1⟩

end Go.Proofs.Ytgkfampgofjkfaa
