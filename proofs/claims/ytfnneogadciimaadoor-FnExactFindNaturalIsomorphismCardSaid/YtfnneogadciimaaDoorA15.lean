import Derived.Test.YtfnneogadciimaaDoorA14
import Derived.Test.YtfnneogadciimaaDoorA10
set_option linter.unusedSimpArgs false
set_option linter.unusedVariables false
set_option linter.unusedSectionVars false
namespace Go.Proofs.YtfnneogadciimaaDoor
open Go.RowKit
def InW (ss : List Nat) (l : List Int) : Prop := l.length = ss.length ∧ ∀ i : Nat, i < ss.length → 0 ≤ at0 l (i : Int) ∧ (atW ss (i : Int)).testBit (at0 l (i : Int)).toNat = true
def FitsW (c : Cat) (fs : List Nat) (l : List Int) : Prop := ∀ a : Nat, a < c.s.length → (atM fs (a : Int) (at0 l (at0 c.s (a : Int)))).testBit (at0 l (at0 c.t (a : Int))).toNat = true
theorem onlyN_bit {n : Int} {k : Nat} : (onlyN n).testBit k = true ↔ (0 ≤ n ∧ n < 64) ∧ n.toNat = k := by
  unfold onlyN
  split
  · rename_i h; rw [Nat.testBit_two_pow]; simp [h]
  · rename_i h; simp [h]
theorem accS_bit (F : Int → Nat) (k : Nat) : ∀ ps : List Int, (accS F ps).testBit k = true ↔ ∃ p ∈ ps, F p ≠ 0 ∧ (onlyN p).testBit k = true := list_snoc (by simp [accS]) fun ps p ih => by
  by_cases h : F p = 0
  · rw [accS_f h, ih]
    refine ⟨fun ⟨q, hq, h1⟩ => ⟨q, List.mem_append_left _ hq, h1⟩, fun ⟨q, hq, h1, h2⟩ => ?_⟩
    rcases List.mem_append.1 hq with hq | hq
    · exact ⟨q, hq, h1, h2⟩
    · rw [List.mem_singleton.1 hq] at h1; exact absurd h h1
  · rw [accS_t h, Nat.testBit_or, Bool.or_eq_true, ih]
    refine ⟨fun h' => h'.elim (fun ⟨q, hq, h1⟩ => ⟨q, List.mem_append_left _ hq, h1⟩) fun h2 => ⟨p, by simp, h, h2⟩, fun ⟨q, hq, h1, h2⟩ => ?_⟩
    rcases List.mem_append.1 hq with hq | hq
    · exact .inl ⟨q, hq, h1, h2⟩
    · rw [List.mem_singleton.1 hq] at h2; exact .inr h2
theorem accT_bit (F : Int → Nat) (k : Nat) : ∀ ps : List Int, (accT F ps).testBit k = true ↔ ∃ p ∈ ps, (F p).testBit k = true := list_snoc (by simp [accT]) fun ps p ih => by
  by_cases h : F p = 0
  · rw [accT_f h, ih]
    refine ⟨fun ⟨q, hq, h1⟩ => ⟨q, List.mem_append_left _ hq, h1⟩, fun ⟨q, hq, h1⟩ => ?_⟩
    rcases List.mem_append.1 hq with hq | hq
    · exact ⟨q, hq, h1⟩
    · rw [List.mem_singleton.1 hq, h] at h1; simp at h1
  · rw [accT_t h, Nat.testBit_or, Bool.or_eq_true, ih]
    refine ⟨fun h' => h'.elim (fun ⟨q, hq, h1⟩ => ⟨q, List.mem_append_left _ hq, h1⟩) fun h2 => ⟨p, by simp, h2⟩, fun ⟨q, hq, h1⟩ => ?_⟩
    rcases List.mem_append.1 hq with hq | hq
    · exact .inl ⟨q, hq, h1⟩
    · rw [List.mem_singleton.1 hq] at h1; exact .inr h1
theorem atW_put {ss : List Nat} {k : Nat} {z : Nat} (hk : k < ss.length) (j : Int) : atW (ss.set k z) j = if j.toNat = k then z else atW ss j := by
  show (ss.set k z).getD j.toNat 0 = if j.toNat = k then z else ss.getD j.toNat 0
  rw [List.getD_eq_getElem?_getD, List.getD_eq_getElem?_getD, List.getElem?_set]
  by_cases h : k = j.toNat
  · subst h; simp [hk]
  · rw [if_neg h, if_neg (fun e => h e.symm)]
theorem sum_put : ∀ (ss : List Nat) (k z : Nat), k < ss.length → (ss.set k z).sum + ss.getD k 0 = ss.sum + z
  | [], k, z, h => by simp at h
  | s :: ss, 0, z, h => by simp; omega
  | s :: ss, k + 1, z, h => by
    have := sum_put ss k z (by simpa using h)
    simp only [List.set_cons_succ, List.sum_cons, List.getD_cons_succ]; omega
theorem inW_and {ss : List Nat} {l : List Int} {i : Int} {t : Nat} (h : InW ss l) (i0 : 0 ≤ i) (i1 : i < ss.length) (ht : t.testBit (at0 l i).toNat = true) : InW (ss.set i.toNat (atW ss i &&& t)) l := by
  refine ⟨by rw [List.length_set]; exact h.1, fun j hj => ?_⟩
  rw [List.length_set] at hj
  obtain ⟨h1, h2⟩ := h.2 j hj
  refine ⟨h1, ?_⟩
  rw [atW_put (by omega)]
  split
  · rename_i e
    have e2 : i = (j : Int) := by omega
    subst e2
    rw [Nat.testBit_and, h2, ht]; rfl
  · exact h2
def SubW (ss' ss : List Nat) : Prop := ss'.length = ss.length ∧ ∀ (i : Int) (k : Nat), (atW ss' i).testBit k = true → (atW ss i).testBit k = true
theorem subW_refl (ss : List Nat) : SubW ss ss := ⟨rfl, fun _ _ h => h⟩
theorem SubW.trans {a b c : List Nat} (h : SubW a b) (k : SubW b c) : SubW a c := ⟨h.1.trans k.1, fun i n hn => k.2 i n (h.2 i n hn)⟩
theorem subW_and {ss : List Nat} {i : Int} {t : Nat} (i0 : 0 ≤ i) (i1 : i < ss.length) : SubW (ss.set i.toNat (atW ss i &&& t)) ss := by
  refine ⟨by simp, fun j k hk => ?_⟩
  rw [atW_put (by omega)] at hk
  split at hk
  · rename_i e
    rw [Nat.testBit_and, Bool.and_eq_true] at hk
    show (ss.getD j.toNat 0).testBit k = true
    rw [e]; exact hk.1
  · exact hk
theorem allF_put {ss : List Nat} (h : AllF ss) {i : Nat} {t : Nat} (ht : t < 1099511627776) : AllF (ss.set i t) := fun s hs => by
  rcases List.mem_or_eq_of_mem_set hs with hs | rfl
  · exact h s hs
  · exact ht
section
variable {c : Cat} {fs ss : List Nat} {a : Int} {l : List Int}
theorem nsq1_F (h : AllF ss) : AllF (nsq1 c fs ss a) := allF_put h (Nat.lt_of_le_of_lt Nat.and_le_left (atW_F h _))
theorem nsq_F (h : AllF ss) : AllF (nsq2 c fs ss a) := allF_put (nsq1_F h) (Nat.lt_of_le_of_lt Nat.and_le_left (atW_F (nsq1_F h) _))
theorem nsq_sub (h0 : 0 ≤ at0 c.s a) (h1 : at0 c.s a < ss.length) (k0 : 0 ≤ at0 c.t a) (k1 : at0 c.t a < ss.length) : SubW (nsq2 c fs ss a) ss :=
  (subW_and k0 (by simpa [nsq1] using k1)).trans (subW_and h0 h1)
theorem mem_bitsI {s : Nat} (hs : s < 18446744073709551616) {p : Int} (p0 : 0 ≤ p) : p ∈ bitsI s ↔ s.testBit p.toNat = true := by
  unfold bitsI
  rw [List.mem_map]
  constructor
  · rintro ⟨n, hn, rfl⟩; simpa using (mem_bits hs).1 hn
  · intro h; exact ⟨p.toNat, (mem_bits hs).2 h, by omega⟩
theorem nsq_keep (hF : AllF ss) (h0 : 0 ≤ at0 c.s a) (h1 : at0 c.s a < ss.length) (k0 : 0 ≤ at0 c.t a) (k1 : at0 c.t a < ss.length) (hl : InW ss l)
    (hf : (atM fs a (at0 l (at0 c.s a))).testBit (at0 l (at0 c.t a)).toNat = true) : InW (nsq2 c fs ss a) l := by
  obtain ⟨p0, p1⟩ : 0 ≤ at0 l (at0 c.s a) ∧ (atW ss (at0 c.s a)).testBit (at0 l (at0 c.s a)).toNat = true := by
    obtain ⟨i, hi⟩ := Int.eq_ofNat_of_zero_le h0
    rw [hi]; exact hl.2 i (by omega)
  obtain ⟨q0, q1⟩ : 0 ≤ at0 l (at0 c.t a) ∧ (atW ss (at0 c.t a)).testBit (at0 l (at0 c.t a)).toNat = true := by
    obtain ⟨i, hi⟩ := Int.eq_ofNat_of_zero_le k0
    rw [hi]; exact hl.2 i (by omega)
  have hw := hF.w
  have hb : (fitW fs ss a (at0 c.t a) (at0 l (at0 c.s a))).testBit (at0 l (at0 c.t a)).toNat = true := by
    unfold fitW; rw [Nat.testBit_and, hf, q1]; rfl
  have hm : at0 l (at0 c.s a) ∈ bitsI (atW ss (at0 c.s a)) := (mem_bitsI (atW_lt hw _) p0).2 p1
  have h40 := bits40 (atW_F hF _) hm
  have hS : (nsqS c fs ss a).testBit (at0 l (at0 c.s a)).toNat = true := by
    unfold nsqS
    rw [accS_bit]
    exact ⟨_, hm, fun e => by rw [e] at hb; simp at hb, onlyN_bit.2 ⟨⟨p0, by omega⟩, rfl⟩⟩
  have hT : (nsqT c fs ss a).testBit (at0 l (at0 c.t a)).toNat = true := by
    unfold nsqT
    rw [accT_bit]
    exact ⟨_, hm, hb⟩
  have i1 : InW (nsq1 c fs ss a) l := inW_and hl h0 h1 hS
  exact inW_and i1 k0 (by simpa [nsq1] using k1) hT
theorem nsq_sum (h0 : 0 ≤ at0 c.s a) (h1 : at0 c.s a < ss.length) (k0 : 0 ≤ at0 c.t a) (k1 : at0 c.t a < ss.length) :
    (nsq2 c fs ss a).sum ≤ ss.sum ∧ ((lesS c fs ss a || lesT c fs ss a) = true → (nsq2 c fs ss a).sum < ss.sum) ∧ ((lesS c fs ss a || lesT c fs ss a) = false → nsq2 c fs ss a = ss) := by
  have e1 := sum_put ss (at0 c.s a).toNat (atW ss (at0 c.s a) &&& nsqS c fs ss a) (by omega)
  have e2 := sum_put (nsq1 c fs ss a) (at0 c.t a).toNat (atW (nsq1 c fs ss a) (at0 c.t a) &&& nsqT c fs ss a) (by simp [nsq1]; omega)
  have l1 : atW ss (at0 c.s a) &&& nsqS c fs ss a ≤ atW ss (at0 c.s a) := Nat.and_le_left
  have l2 : atW (nsq1 c fs ss a) (at0 c.t a) &&& nsqT c fs ss a ≤ atW (nsq1 c fs ss a) (at0 c.t a) := Nat.and_le_left
  have g1 : ss.getD (at0 c.s a).toNat 0 = atW ss (at0 c.s a) := rfl
  have g2 : (nsq1 c fs ss a).getD (at0 c.t a).toNat 0 = atW (nsq1 c fs ss a) (at0 c.t a) := rfl
  have n1 : nsq1 c fs ss a = ss.set (at0 c.s a).toNat (atW ss (at0 c.s a) &&& nsqS c fs ss a) := rfl
  have n2 : nsq2 c fs ss a = (nsq1 c fs ss a).set (at0 c.t a).toNat (atW (nsq1 c fs ss a) (at0 c.t a) &&& nsqT c fs ss a) := rfl
  rw [← n1] at e1
  rw [← n2] at e2
  refine ⟨by omega, fun h => ?_, fun h => ?_⟩
  · rw [Bool.or_eq_true] at h
    rcases h with h | h
    · have := of_decide_eq_true h; omega
    · have := of_decide_eq_true h; omega
  · rw [Bool.or_eq_false_iff] at h
    have h3 : atW ss (at0 c.s a) &&& nsqS c fs ss a = atW ss (at0 c.s a) := by
      have := of_decide_eq_false h.1
      simp only [ne_eq, Decidable.not_not] at this; exact_mod_cast this
    have h4 : atW (nsq1 c fs ss a) (at0 c.t a) &&& nsqT c fs ss a = atW (nsq1 c fs ss a) (at0 c.t a) := by
      have := of_decide_eq_false h.2
      simp only [ne_eq, Decidable.not_not] at this; exact_mod_cast this
    have s1 : nsq1 c fs ss a = ss := by
      rw [n1, h3]
      show ss.set (at0 c.s a).toNat (ss.getD (at0 c.s a).toNat 0) = ss
      rw [List.getD_eq_getElem?_getD, List.getElem?_eq_getElem (by omega)]
      simp
    rw [n2, h4]
    show (nsq1 c fs ss a).set (at0 c.t a).toNat ((nsq1 c fs ss a).getD (at0 c.t a).toNat 0) = ss
    rw [s1, List.getD_eq_getElem?_getD, List.getElem?_eq_getElem (by omega)]
    simp
end
theorem fix_fits {c : Cat} {fs ss : List Nat} {l : List Int} (hS : ShapeP c) (hss : (ss.length : Int) = c.ob) (hF : AllF ss) (h1 : ∀ i : Nat, i < ss.length → (0 ≤ at0 l (i : Int) ∧ at0 l (i : Int) < 64) ∧ atW ss (i : Int) = onlyN (at0 l (i : Int)))
    (hfix : ∀ a : Nat, a < c.s.length → lesS c fs ss (a : Int) = false) : FitsW c fs l := fun a ha => by
  have hs := allP_at hS.sa (k := a) ha
  have ht := allP_at hS.ta (k := a) (by have := hS.tl; omega)
  obtain ⟨i, hi⟩ := Int.eq_ofNat_of_zero_le hs.1
  obtain ⟨j, hj⟩ := Int.eq_ofNat_of_zero_le ht.1
  obtain ⟨⟨p0, p1⟩, p2⟩ := h1 i (by omega)
  obtain ⟨⟨q0, q1⟩, q2⟩ := h1 j (by omega)
  have h := of_decide_eq_false (hfix a ha)
  simp only [ne_eq, Decidable.not_not] at h
  have h : atW ss (at0 c.s (a : Int)) &&& nsqS c fs ss a = atW ss (at0 c.s (a : Int)) := by exact_mod_cast h
  have hb : (atW ss (at0 c.s (a : Int)) &&& nsqS c fs ss a).testBit (at0 l (i : Int)).toNat = true := by
    rw [h, hi, p2]; exact onlyN_bit.2 ⟨⟨p0, p1⟩, rfl⟩
  rw [Nat.testBit_and, Bool.and_eq_true] at hb
  have hb2 := hb.2
  unfold nsqS at hb2
  rw [accS_bit] at hb2
  obtain ⟨p, hp, hne, hbp⟩ := hb2
  obtain ⟨⟨r0, r1⟩, r2⟩ := onlyN_bit.1 hbp
  have ep : p = at0 l (i : Int) := by omega
  subst ep
  obtain ⟨k, hk⟩ := Nat.exists_testBit_of_ne_zero hne
  unfold fitW at hk
  rw [Nat.testBit_and, Bool.and_eq_true, hj, q2] at hk
  obtain ⟨_, ek⟩ := onlyN_bit.1 hk.2
  rw [hi, hj, ek]; exact hk.1
end Go.Proofs.YtfnneogadciimaaDoor
set_option linter.unusedSimpArgs false
set_option linter.unusedVariables false
set_option linter.unusedSectionVars false
namespace Go.Proofs.YtfnneogadciimaaDoor
open Go.RowKit
def prodW : List Nat → List (List Int)
  | [] => [[]]
  | s :: ss => (bitsI s).flatMap fun n => (prodW ss).map (n :: ·)
noncomputable def sols (V : List Int → Prop) (ss : List Nat) : List (List Int) := (prodW ss).filter fun l => bP (V l)
def inB : List Nat → List Int → Bool
  | [], [] => true
  | s :: ss, n :: l => decide (0 ≤ n) && s.testBit n.toNat && inB ss l
  | _, _ => false
theorem inW_cons {s : Nat} {ss : List Nat} {n : Int} {l : List Int} : InW (s :: ss) (n :: l) ↔ (0 ≤ n ∧ s.testBit n.toNat = true) ∧ InW ss l := by
  constructor
  · rintro ⟨h1, h2⟩
    refine ⟨h2 0 (by simp), by simpa using h1, fun i hi => ?_⟩
    have := h2 (i + 1) (by simpa using hi)
    have e1 : at0 (n :: l) ((i + 1 : Nat) : Int) = at0 l (i : Int) := by simp [at0]
    have e2 : atW (s :: ss) ((i + 1 : Nat) : Int) = atW ss (i : Int) := by
      show (s :: ss).getD ((i + 1 : Nat) : Int).toNat 0 = ss.getD (i : Int).toNat 0
      simp
    rw [e1, e2] at this; exact this
  · rintro ⟨h0, h1, h2⟩
    refine ⟨by simpa using h1, fun i hi => ?_⟩
    cases i with
    | zero => exact h0
    | succ i =>
      have := h2 i (by simpa using hi)
      have e1 : at0 (n :: l) ((i + 1 : Nat) : Int) = at0 l (i : Int) := by simp [at0]
      have e2 : atW (s :: ss) ((i + 1 : Nat) : Int) = atW ss (i : Int) := by
        show (s :: ss).getD ((i + 1 : Nat) : Int).toNat 0 = ss.getD (i : Int).toNat 0
        simp
      rw [e1, e2]; exact this
theorem inB_iff : ∀ (ss : List Nat) (l : List Int), inB ss l = true ↔ InW ss l
  | [], [] => by simp [inB, InW]
  | [], n :: l => by simp [inB, InW]
  | s :: ss, [] => by simp [inB, InW]
  | s :: ss, n :: l => by rw [inW_cons, ← inB_iff ss l]; simp [inB]
theorem bits_sub {s s' : Nat} (h : ∀ k, s'.testBit k = true → s.testBit k = true) : bitsI s' = (bitsI s).filter fun n => s'.testBit n.toNat := by
  unfold bitsI bitsN
  rw [List.filter_map, List.filter_filter]
  congr 1
  apply List.filter_congr
  intro i _
  simp only [Function.comp]
  cases e : s'.testBit i
  · simp [e]
  · simp [e, h i e]
theorem prodW_sub : ∀ (ss ss' : List Nat), ss'.length = ss.length → (∀ (i k : Nat), (ss'.getD i 0).testBit k = true → (ss.getD i 0).testBit k = true) → prodW ss' = (prodW ss).filter fun l => inB ss' l
  | [], [], _, _ => rfl
  | [], _ :: _, h, _ => by simp at h
  | _ :: _, [], h, _ => by simp at h
  | s :: ss, s' :: ss', h, hs => by
    have ih := prodW_sub ss ss' (by simpa using h) (fun i k hk => hs (i + 1) k hk)
    have h0 : ∀ k, s'.testBit k = true → s.testBit k = true := fun k hk => hs 0 k hk
    simp only [prodW]
    rw [bits_sub h0, List.filter_flatMap, ih]
    have hb : ∀ n ∈ bitsI s, 0 ≤ n := fun n hn => by
      unfold bitsI at hn; obtain ⟨m, _, rfl⟩ := List.mem_map.1 hn; omega
    revert hb
    generalize bitsI s = ns
    intro hb
    induction ns with
    | nil => rfl
    | cons n ns ih2 =>
      have hn := hb n (List.mem_cons_self ..)
      have ih3 := ih2 fun n hn => hb n (List.mem_cons_of_mem _ hn)
      rw [List.flatMap_cons]
      cases e : s'.testBit n.toNat
      · rw [List.filter_cons_of_neg (by simp [e]), ih3]
        have : ((prodW ss).map (n :: ·)).filter (fun l => inB (s' :: ss') l) = [] := by
          rw [List.filter_eq_nil_iff]
          intro l hl
          obtain ⟨l', _, rfl⟩ := List.mem_map.1 hl
          simp [inB, e]
        rw [this]; rfl
      · rw [List.filter_cons_of_pos (by simp [e]), List.flatMap_cons, ih3]
        congr 1
        rw [List.filter_map]
        congr 1
        apply List.filter_congr
        intro l _
        simp [inB, e, hn]
theorem prodW_filter {ss ss' : List Nat} (h : SubW ss' ss) : prodW ss' = (prodW ss).filter fun l => inB ss' l := prodW_sub ss ss' h.1 fun i k hk => h.2 (i : Int) k hk
theorem mem_prodW : ∀ (ss : List Nat), AllW ss → ∀ l, l ∈ prodW ss ↔ InW ss l
  | [], _, l => by
    rw [prodW, List.mem_singleton]
    cases l with
    | nil => simp [InW]
    | cons n l => simp [InW]
  | s :: ss, hw, l => by
    have ih := mem_prodW ss (fun x hx => hw x (List.mem_cons_of_mem _ hx))
    rw [prodW, List.mem_flatMap]
    cases l with
    | nil => simp [InW]
    | cons n l =>
      rw [inW_cons]
      constructor
      · rintro ⟨m, hm, hl⟩
        obtain ⟨l', hl', e⟩ := List.mem_map.1 hl
        simp only [List.cons.injEq] at e
        obtain ⟨rfl, rfl⟩ := e
        have m0 : 0 ≤ m := by unfold bitsI at hm; obtain ⟨k, _, rfl⟩ := List.mem_map.1 hm; omega
        exact ⟨⟨m0, (mem_bitsI (hw s (List.mem_cons_self ..)) m0).1 hm⟩, (ih l').1 hl'⟩
      · rintro ⟨⟨n0, hb⟩, hl⟩
        exact ⟨n, (mem_bitsI (hw s (List.mem_cons_self ..)) n0).2 hb, List.mem_map.2 ⟨l, (ih l).2 hl, rfl⟩⟩
theorem sols_keep {V : List Int → Prop} {ss ss' : List Nat} (hw : AllW ss) (h : SubW ss' ss) (hk : ∀ l, V l → InW ss l → InW ss' l) : sols V ss' = sols V ss := by
  unfold sols
  rw [prodW_filter h, List.filter_filter]
  apply List.filter_congr
  intro l hl
  by_cases hv : V l
  · rw [bP_t hv, (inB_iff ss' l).2 (hk l hv ((mem_prodW ss hw l).1 hl))]; rfl
  · rw [bP_f hv]; rfl
theorem prodW_zero : ∀ (ss : List Nat), 0 ∈ ss → prodW ss = []
  | [], h => by simp at h
  | s :: ss, h => by
    rw [prodW]
    rcases List.mem_cons.1 h with rfl | h
    · rw [bitsI_zero]; rfl
    · rw [prodW_zero ss h]; simp
theorem bits_only {n : Int} (h0 : 0 ≤ n) (h1 : n < 64) : bitsI (onlyN n) = [n] := by
  unfold onlyN
  rw [if_pos ⟨h0, h1⟩]
  have h2 : bitsN (2 ^ n.toNat) = [n.toNat] := by
    unfold bitsN
    rw [filter_least (q := fun _ => false) 64 (show n.toNat < 64 by omega) (fun i hi => by rw [Nat.testBit_two_pow]; simp; omega) (by rw [Nat.testBit_two_pow]; simp) (fun i => by rw [Nat.testBit_two_pow]; by_cases h : n.toNat = i <;> simp [h])]
    simp
  unfold bitsI
  rw [h2]
  simp; omega
theorem prodW_split : ∀ (ss : List Nat) (k : Nat), k < ss.length → (∀ i : Nat, i < k → ∃ n : Int, (0 ≤ n ∧ n < 64) ∧ ss.getD i 0 = onlyN n) → (∀ n ∈ bitsI (ss.getD k 0), n < 64) → prodW ss = (bitsI (ss.getD k 0)).flatMap fun n => prodW (ss.set k (onlyN n))
  | [], k, h, _, _ => by simp at h
  | s :: ss, 0, _, _, h64 => by
    rw [prodW]
    show (bitsI s).flatMap _ = (bitsI s).flatMap _
    have h64 : ∀ n ∈ bitsI s, n < 64 := h64
    rw [List.flatMap_def, List.flatMap_def]
    congr 1
    apply List.map_congr_left
    intro n hn
    have n0 : 0 ≤ n := by unfold bitsI at hn; obtain ⟨k, _, rfl⟩ := List.mem_map.1 hn; omega
    rw [List.set_cons_zero, prodW, bits_only n0 (h64 n hn)]
    simp
  | s :: ss, k + 1, h, hb, h64 => by
    obtain ⟨m, hm, e⟩ := hb 0 (by omega)
    have e : s = onlyN m := e
    have ih := prodW_split ss k (by simpa using h) (fun i hi => hb (i + 1) (by omega)) h64
    rw [prodW, e, bits_only hm.1 hm.2]
    simp only [List.flatMap_cons, List.flatMap_nil, List.append_nil]
    show (prodW ss).map (m :: ·) = (bitsI (ss.getD k 0)).flatMap fun n => prodW ((onlyN m :: ss).set (k + 1) (onlyN n))
    rw [ih, List.map_flatMap]
    rw [List.flatMap_def, List.flatMap_def]
    congr 1
    apply List.map_congr_left
    intro n _
    rw [List.set_cons_succ, prodW, bits_only hm.1 hm.2]
    simp
theorem prodW_one : ∀ (ss : List Nat) (l : List Int), l.length = ss.length → (∀ i : Nat, i < ss.length → (0 ≤ at0 l (i : Int) ∧ at0 l (i : Int) < 64) ∧ atW ss (i : Int) = onlyN (at0 l (i : Int))) → prodW ss = [l]
  | [], [], _, _ => rfl
  | [], _ :: _, h, _ => by simp at h
  | _ :: _, [], h, _ => by simp at h
  | s :: ss, n :: l, h, hb => by
    have ih := prodW_one ss l (by simpa using h) (fun i hi => by
      have := hb (i + 1) (by simpa using hi)
      have e1 : at0 (n :: l) ((i + 1 : Nat) : Int) = at0 l (i : Int) := by simp [at0]
      have e2 : atW (s :: ss) ((i + 1 : Nat) : Int) = atW ss (i : Int) := by
        show (s :: ss).getD ((i + 1 : Nat) : Int).toNat 0 = ss.getD (i : Int).toNat 0
        simp
      rw [e1, e2] at this; exact this)
    obtain ⟨hn, e⟩ := hb 0 (by simp)
    have e : s = onlyN n := e
    have hn : 0 ≤ n ∧ n < 64 := hn
    rw [prodW, e, bits_only hn.1 hn.2, ih]
    rfl
theorem sols_split {V : List Int → Prop} {ss : List Nat} {k : Nat} (hF : AllF ss) (hk : k < ss.length) (hb : ∀ i : Nat, i < k → ∃ n : Int, (0 ≤ n ∧ n < 64) ∧ atW ss (i : Int) = onlyN n) : sols V ss = (bitsI (atW ss (k : Int))).flatMap fun n => sols V (ss.set k (onlyN n)) := by
  unfold sols
  rw [prodW_split ss k hk hb (fun n hn => by have := (bits40 (atW_F hF (k : Int)) hn).2.1; omega), List.filter_flatMap]
  rfl
theorem sub_le {s s' : Nat} (h : ∀ k, s'.testBit k = true → s.testBit k = true) : s' ≤ s := by
  have : s' &&& s = s' := by
    apply Nat.eq_of_testBit_eq
    intro i
    rw [Nat.testBit_and]
    cases e : s'.testBit i
    · rfl
    · rw [h i e]; rfl
  rw [← this]; exact Nat.and_le_right
theorem sum_sub : ∀ (ss ss' : List Nat), ss'.length = ss.length → (∀ i : Nat, ss'.getD i 0 ≤ ss.getD i 0) → ss'.sum ≤ ss.sum
  | [], [], _, _ => Nat.le_refl _
  | [], _ :: _, h, _ => by simp at h
  | _ :: _, [], h, _ => by simp at h
  | s :: ss, s' :: ss', h, hs => by
    have ih := sum_sub ss ss' (by simpa using h) fun i => hs (i + 1)
    have := hs 0
    simp only [List.getD_cons_zero] at this
    simp only [List.sum_cons]; omega
theorem SubW.sum {ss ss' : List Nat} (h : SubW ss' ss) : ss'.sum ≤ ss.sum := sum_sub ss ss' h.1 fun i => sub_le fun k hk => h.2 (i : Int) k hk
theorem only_sum {ss : List Nat} {k : Nat} {n : Int} (hk : k < ss.length) (hn : (atW ss (k : Int)).testBit n.toNat = true) (n0 : 0 ≤ n) (n1 : n < 64) (hne : atW ss (k : Int) ≠ onlyN n) : (ss.set k (onlyN n)).sum < ss.sum := by
  have := sum_put ss k (onlyN n) hk
  have hle : onlyN n ≤ atW ss (k : Int) := sub_le fun i hi => by obtain ⟨_, e⟩ := onlyN_bit.1 hi; rw [← e]; exact hn
  have e : ss.getD k 0 = atW ss (k : Int) := rfl
  omega
theorem allF_only {ss : List Nat} (h : AllF ss) {k : Nat} {n : Int} (n1 : n < 40) : AllF (ss.set k (onlyN n)) := allF_put h (by
  unfold onlyN
  split
  · exact Nat.pow_lt_pow_right (by decide) (show n.toNat < 40 by omega)
  · decide)
end Go.Proofs.YtfnneogadciimaaDoor
set_option linter.unusedSimpArgs false
set_option linter.unusedVariables false
set_option linter.unusedSectionVars false
namespace Go.Proofs.YtfnneogadciimaaDoor
open Go.RowKit
section
variable {w0 : World} {is : List Itm}
theorem star_unpick_same {n : Nat} {i : Itm} {w : World} {S : Nat → Prop} (h : is[n]? = some i) (hs : Star (i :: is.eraseIdx n) w S) : Star is w S := by
  obtain ⟨hn, he⟩ := List.getElem?_eq_some_iff.1 h
  have h1 := star_unpick is hn hs
  have : is.set n i = is := by rw [← he, List.set_getElem_self]
  rwa [this] at h1
theorem star_tail1 {F : List Itm} {w : World} {S : Nat → Prop} (h : Star F w S) : Star [tailI F] w S := star_tail_in [] h
theorem star_tail0 {F : List Itm} {w : World} {S : Nat → Prop} (h : Star [tailI F] w S) : Star F w S := star_tail_out [] h
theorem mem_look2_out {w : World} {n m : Nat} {i j : Itm} (M : Mem w0 w is) (hi : is[n]? = some i) (hj : (is.eraseIdx n)[m]? = some j) : Mem w0 w [i, j, tailI ((is.eraseIdx n).eraseIdx m)] := by
  obtain ⟨S1, S2, a1, a2, a3, a4, a5⟩ := star_pick is hi M.2
  obtain ⟨T1, T2, b1, b2, b3, b4, b5⟩ := star_pick _ hj a5
  exact ⟨M.1, S1, S2, a1, a2, a3, a4, T1, T2, b1, b2, b3, b4, star_tail1 b5⟩
theorem mem_look2_in {w : World} {n m : Nat} {i' j : Itm} (hn : n < is.length) (hj : (is.eraseIdx n)[m]? = some j) (M : Mem w0 w [i', j, tailI ((is.eraseIdx n).eraseIdx m)]) : Mem w0 w (is.set n i') := by
  obtain ⟨hb, S1, S2, a1, a2, a3, a4, T1, T2, b1, b2, b3, b4, b5⟩ := M
  exact ⟨hb, star_unpick is hn ⟨S1, S2, a1, a2, a3, a4, star_unpick_same hj ⟨T1, T2, b1, b2, b3, b4, star_tail0 b5⟩⟩⟩
theorem mem_look3_out {w : World} {n m p : Nat} {i j k : Itm} (M : Mem w0 w is) (hi : is[n]? = some i) (hj : (is.eraseIdx n)[m]? = some j) (hk : ((is.eraseIdx n).eraseIdx m)[p]? = some k) : Mem w0 w [i, j, k, tailI (((is.eraseIdx n).eraseIdx m).eraseIdx p)] := by
  obtain ⟨S1, S2, a1, a2, a3, a4, a5⟩ := star_pick is hi M.2
  obtain ⟨T1, T2, b1, b2, b3, b4, b5⟩ := star_pick _ hj a5
  obtain ⟨U1, U2, c1, c2, c3, c4, c5⟩ := star_pick _ hk b5
  exact ⟨M.1, S1, S2, a1, a2, a3, a4, T1, T2, b1, b2, b3, b4, U1, U2, c1, c2, c3, c4, star_tail1 c5⟩
theorem mem_look3_in {w : World} {n m p : Nat} {i' j k : Itm} (hn : n < is.length) (hj : (is.eraseIdx n)[m]? = some j) (hk : ((is.eraseIdx n).eraseIdx m)[p]? = some k) (M : Mem w0 w [i', j, k, tailI (((is.eraseIdx n).eraseIdx m).eraseIdx p)]) : Mem w0 w (is.set n i') := by
  obtain ⟨hb, S1, S2, a1, a2, a3, a4, T1, T2, b1, b2, b3, b4, U1, U2, c1, c2, c3, c4, c5⟩ := M
  exact ⟨hb, star_unpick is hn ⟨S1, S2, a1, a2, a3, a4, star_unpick_same hj ⟨T1, T2, b1, b2, b3, b4, star_unpick_same hk ⟨U1, U2, c1, c2, c3, c4, star_tail0 c5⟩⟩⟩⟩
end
structure NarS (V : List Int → Prop) (ss ss' : List Nat) : Prop where
  sub : SubW ss' ss
  F : AllF ss'
  keep : ∀ l, V l → InW ss l → InW ss' l
  one : 0 ∉ ss' → ∀ l : List Int, l.length = ss'.length → (∀ i : Nat, i < ss'.length → (0 ≤ at0 l (i : Int) ∧ at0 l (i : Int) < 64) ∧ atW ss' (i : Int) = onlyN (at0 l (i : Int))) → V l
def NarF (w0 : World) (vn : Value) (H : Itm) (n : Nat) (V : List Int → Prop) : Prop :=
  ∀ (w : World) (v : Value) (ss : List Nat) (R : Itm), ss.length = n → AllF ss → Mem w0 w [ownGI elW v ss, H, R] →
    CallsV vn [v] w (fun e w' => ∃ ss', e = .returned (.bool (!decide (0 ≤ idxZ ss' 0))) ∧ NarS V ss ss' ∧ Mem w0 w' [ownGI elW v ss', H, R])
section
variable {w0 : World} {is : List Itm} {ops : Array Oper} {Q : Exit → Act → World → Prop} {o : Oper} {rest : List Oper} {N : Frm} {e : Env} {v : Value} {d : Nat} {K : Act → World → Prop} {f : FuncId} {fn : Func} {ags : Array Operand} {ts : Array TypeId} {vs : List Value}
theorem go_nar {n m z : Nat} {x : Operand} {vn : Value} {H : Itm} {ss : List Nat} {V : List Int → Prop} (hd : o.dst = some d) (hN : Nat.blt d N = true) (hop : o.op = .call { callee := .value x, args := ags, argTypes := ts }) (hx : evo e x = some vn) (hargs : evoL e ags.toList = some [v])
    (hi : is[n]? = some (ownGI elW v ss)) (hj : (is.eraseIdx n)[m]? = some H) (hF : NarF w0 vn H z V) (hl : ss.length = z) (hs : AllF ss)
    (hk : ∀ ss', NarS V ss ss' → GK w0 (is.set n (ownGI elW v ss')) N K ((d, .bool (!decide (0 ≤ idxZ ss' 0))) :: e)) : GO w0 is N o e Q K := by
  intro w a M F
  have hn : n < is.length := (List.getElem?_eq_some_iff.1 hi).1
  refine go_callV hd hN F hop hx hargs (hF w v ss _ hl hs (mem_look2_out M hi hj)) fun e' w' hR => ?_
  obtain ⟨ss', rfl, h1, M'⟩ := hR
  exact ⟨_, rfl, fun a F => hk ss' h1 w' a (mem_look2_in hn hj M') F⟩
theorem g_callTF {X Y : Type} {n m p : Nat} {i j k : Itm} {A : X → Itm} {B : Y → Itm} {PX : X → Prop} {PY : Y → Prop} (hw : Want ops e o true) (hd : o.dst = some d) (hN : Nat.blt d N = true) (hop : o.op = .call { callee := .value (.func f), args := ags, argTypes := ts }) (hfn : Tryd.prog.funcs[f]? = some fn) (hb : fn.body.isNone = false) (hnm : (fn.name == "runtime.NumGoroutine") = false)
    (hargs : evoL e ags.toList = some vs) (hi : is[n]? = some i) (hj : (is.eraseIdx n)[m]? = some j) (hk : ((is.eraseIdx n).eraseIdx m)[p]? = some k)
    (hc : ∀ (R : Itm) w, Mem w0 w [i, j, k, R] → Calls Tryd.prog f vs.toArray w (fun e w' => (e = .returned (.bool true) ∧ ∃ x, PX x ∧ Mem w0 w' [A x, j, k, R]) ∨ (e = .returned (.bool false) ∧ ∃ y, PY y ∧ Mem w0 w' [B y, j, k, R])))
    (h1 : ∀ x, PX x → G w0 (is.set n (A x)) N ops Q rest ((d, .bool true) :: e)) (h2 : ∀ y, PY y → G w0 (is.set n (B y)) N ops Q rest ((d, .bool false) :: e)) : G w0 is N ops Q (o :: rest) e := by
  intro w a M F R
  have hn : n < is.length := (List.getElem?_eq_some_iff.1 hi).1
  unfold wpListIn
  rw [if_pos (want_eq hw F)]
  refine oper_in R.o (go_call hd hN F hop hfn hb hnm hargs (hc _ w (mem_look3_out M hi hj hk)) fun e' w' hR => ?_)
  rcases hR with ⟨rfl, x, hx, M'⟩ | ⟨rfl, y, hy, M'⟩
  · exact ⟨_, rfl, fun a F => h1 x hx w' a (mem_look3_in hn hj hk M') F R.r⟩
  · exact ⟨_, rfl, fun a F => h2 y hy w' a (mem_look3_in hn hj hk M') F R.r⟩
end
section
variable {w0 : World} {is : List Itm} {N : Frm} {e : Env} {v : Value}
theorem run_loadC {t : TypeId} {a : Addr} {w : World} {td : TypeDesc} (ht : Tryd.prog.underlying t = some td) (hd : aggT td = false) (hc : w.cell? a = some v) : (loadVar t a).run Tryd.prog w = .ok v w := by
  have hagg : (isAgg t).run Tryd.prog w = .ok false w := by
    unfold isAgg
    rw [Sem.run_bind, run_underlying ht w]
    cases td <;> simp_all [aggT]
  simp [loadVar, Sem.run_bind, hagg, hc]
theorem ret_c1 {fn : Func} {a n B : Nat} {t tb : TypeId} {td : TypeDesc} {R : Ending → World → Prop} (h : fn.results = #[.cell a t]) (ha : look e a = some (.pointer (some ⟨B, 0, none⟩))) (ht : Tryd.prog.underlying t = some td) (hd : aggT td = false) (hi : is[n]? = some (bxI B tb [v]))
    (hR : ∀ w, Mem w0 w is → R (.returned v) w) (hds : N.ds = [] := by rfl) : GK w0 is N (bodyPost Tryd.prog fn R .ret) e :=
  fun w ac M F => bodyPost_ret (v := v) (by
    have h2 := fit_res F ha
    have hc := bx_cell (mem_bx M hi) 0 (v := v) rfl
    simp [results, h, h2, asAddr, run_loadC ht hd hc]) (F.nil hds) (hR w M)
theorem ret_c2 {fn : Func} {a n B a' n' B' : Nat} {t tb t' tb' : TypeId} {td td' : TypeDesc} {v' : Value} {R : Ending → World → Prop} (h : fn.results = #[.cell a t, .cell a' t']) (ha : look e a = some (.pointer (some ⟨B, 0, none⟩))) (ha' : look e a' = some (.pointer (some ⟨B', 0, none⟩))) (ht : Tryd.prog.underlying t = some td) (hd : aggT td = false) (ht' : Tryd.prog.underlying t' = some td') (hd' : aggT td' = false) (hi : is[n]? = some (bxI B tb [v])) (hi' : is[n']? = some (bxI B' tb' [v']))
    (hR : ∀ w, Mem w0 w is → R (.returned (.tuple #[v, v'])) w) (hds : N.ds = [] := by rfl) : GK w0 is N (bodyPost Tryd.prog fn R .ret) e :=
  fun w ac M F => bodyPost_ret (v := .tuple #[v, v']) (by
    have h2 := fit_res F ha
    have h2' := fit_res F ha'
    have hc := bx_cell (mem_bx M hi) 0 (v := v) rfl
    have hc' := bx_cell (mem_bx M hi') 0 (v := v') rfl
    simp [results, h, h2, h2', asAddr, run_loadC ht hd hc, run_loadC ht' hd' hc']) (F.nil hds) (hR w M)
theorem perm_pick1 : ∀ {is : List Itm} {n : Nat} {i : Itm}, is[n]? = some i → is.Perm (i :: is.eraseIdx n)
  | [], n, i, h => by simp at h
  | j :: is, 0, i, h => by
    simp only [List.getElem?_cons_zero, Option.some.injEq] at h
    subst h; exact List.Perm.refl _
  | j :: is, n + 1, i, h => ((perm_pick1 (is := is) (n := n) (by simpa using h)).cons j).trans (List.Perm.swap _ _ _)
theorem perm_pick2 {n m : Nat} {i j : Itm} (hi : is[n]? = some i) (hj : (is.eraseIdx n)[m]? = some j) : is.Perm (i :: j :: (is.eraseIdx n).eraseIdx m) := (perm_pick1 hi).trans (List.Perm.cons _ (perm_pick1 hj))
end
abbrev LV := Value × List Int
def valL (x : LV) : Value := x.1
def TL (x : LV) : List Itm := [own1I x.1 x.2]
def decL (x : LV) : List Int := x.2
def PrdE (w0 : World) (C Cx : List LV → Itm) (V : List Int → Prop) (ss : List Nat) (pre : List LV) (J : List Itm) (e : Ending) (w' : World) : Prop :=
  (e = .returned (.bool true) ∧ ∃ ys : List LV, ys.map decL = sols V ss ∧ Mem w0 w' (C (pre ++ ys) :: J)) ∨ (e = .returned (.bool false) ∧ ∃ ys : List LV, (ys.map decL) <+: sols V ss ∧ Mem w0 w' (Cx (pre ++ ys) :: J))
def PrdOK (w0 : World) (C Cx : List LV → Itm) (l : Nat) (vn : Value) (H : Itm) (V : List Int → Prop) (L : List (List Int)) (n : Nat) (ss : List Nat) : Prop :=
  ∀ (w : World) (v : Value) (pre : List LV) (R : Itm), ss.length = n → AllF ss → (pre.map decL ++ sols V ss) <+: L → Mem w0 w [C pre, ownGI elW v ss, H, R] →
    Calls Tryd.prog 61 #[v, vn, .func (.yield l) #[] #[]] w (PrdE w0 C Cx V ss pre [ownGI elW v ss, H, R])
def CC (C Cx : List LV → Itm) (b : Bool) (ys : List LV) : Itm := match b with | true => C ys | false => Cx ys
theorem set_of {ss1 ss2 : List Nat} {k z : Nat} (h : ss2.set k 0 = ss1.set k 0) : ss2.set k z = ss1.set k z := by
  have := congrArg (·.set k z) h
  simpa [List.set_set] using this
theorem sols_none {V : List Int → Prop} {ss : List Nat} (h : 0 ∈ ss) : sols V ss = [] := by unfold sols; rw [prodW_zero ss h]; rfl
theorem sols_one {V : List Int → Prop} {ss : List Nat} {l : List Int} (hl : l.length = ss.length) (h : ∀ i : Nat, i < ss.length → (0 ≤ at0 l (i : Int) ∧ at0 l (i : Int) < 64) ∧ atW ss (i : Int) = onlyN (at0 l (i : Int))) (hv : V l) : sols V ss = [l] := by
  unfold sols; rw [prodW_one ss l hl h]; simp [bP_t hv]
end Go.Proofs.YtfnneogadciimaaDoor
set_option linter.unusedSimpArgs false
set_option linter.unusedVariables false
set_option linter.unusedSectionVars false
namespace Go.Proofs.YtfnneogadciimaaDoor
open Go.RowKit
def PL (ss : List Nat) (k : Nat) (ls : List Int) : Prop := k ≤ ss.length ∧ ls.length = ss.length ∧ ∀ i : Nat, i < k → (0 ≤ at0 ls (i : Int) ∧ at0 ls (i : Int) < 64) ∧ atW ss (i : Int) = onlyN (at0 ls (i : Int))
theorem pL_zero (ss : List Nat) : PL ss 0 (List.replicate ss.length 0) := ⟨Nat.zero_le _, by simp, fun i h => absurd h (by omega)⟩
theorem at0_put {ls : List Int} {k : Nat} {z : Int} (hk : k < ls.length) (j : Nat) : at0 (ls.set k z) (j : Int) = if j = k then z else at0 ls (j : Int) := by
  show (ls.set k z).getD (j : Int).toNat 0 = if j = k then z else ls.getD (j : Int).toNat 0
  rw [List.getD_eq_getElem?_getD, List.getD_eq_getElem?_getD, List.getElem?_set]
  by_cases h : k = j
  · subst h; simp [hk]
  · have : ¬ k = (j : Int).toNat := by simpa using h
    rw [if_neg this, if_neg (fun e => h e.symm)]
theorem pL_next {ss : List Nat} {k : Nat} {ls : List Int} (h : PL ss k ls) (hk : k < ss.length) (h64 : tzN (atW ss (k : Int)) < 64) (he : atW ss (k : Int) = onlyN (at0 (ls.set k (tzN (atW ss (k : Int)) : Int)) (k : Int))) : PL ss (k + 1) (ls.set k (tzN (atW ss (k : Int)) : Int)) := by
  obtain ⟨h1, h2, h3⟩ := h
  refine ⟨by omega, by simpa using h2, fun i hi => ?_⟩
  by_cases e : i = k
  · subst e
    refine ⟨?_, he⟩
    rw [at0_put (by omega), if_pos rfl]; omega
  · rw [at0_put (by omega), if_neg e]; exact h3 i (by omega)
theorem pL_split {V : List Int → Prop} {ss : List Nat} {k : Nat} {ls : List Int} (h : PL ss k ls) (hF : AllF ss) (hk : k < ss.length) : sols V ss = (bitsI (atW ss (k : Int))).flatMap fun n => sols V (ss.set k (onlyN n)) :=
  sols_split hF hk fun i hi => ⟨_, (h.2.2 i hi).1, (h.2.2 i hi).2⟩
theorem flat_pre {α β : Type} {f : α → List β} {pre L : List α} {x : α} {ys zs : List β} (h : (pre ++ [x]) <+: L) (hy : ys = pre.flatMap f) (hz : zs <+: f x) : (ys ++ zs) <+: L.flatMap f := by
  obtain ⟨t, rfl⟩ := h
  obtain ⟨u, hu⟩ := hz
  refine ⟨u ++ t.flatMap f, ?_⟩
  rw [hy]
  simp only [List.flatMap_append, List.flatMap_cons, List.flatMap_nil, List.append_nil, List.append_assoc]
  rw [← hu]; simp
theorem tz_only {n : Int} (h0 : 0 ≤ n) (h1 : n < 64) : (tzN (onlyN n) : Int) = n := by
  have := bits_only h0 h1
  rw [bitsI_next (only_ne h0 h1) (only_lt n)] at this
  exact (List.cons.inj this).1
theorem ne_only {s : Nat} {n m : Int} (h : s ≠ onlyN m) (hm : m = (tzN s : Int)) (h0 : 0 ≤ n) (h1 : n < 64) : s ≠ onlyN n := fun e => h (by rw [hm, e, tz_only h0 h1])
theorem pre_join {α : Type} {a b c L : List α} (h : (a ++ c) <+: L) (hb : b <+: c) : (a ++ b) <+: L := by
  obtain ⟨t, rfl⟩ := hb
  exact List.IsPrefix.trans ⟨t, by simp⟩ h
theorem ne_of_mem {ss : List Nat} {k : Nat} (hz : 0 ∉ ss) (hk : k < ss.length) : atW ss (k : Int) ≠ 0 := fun e => hz (by
  have : ss.getD k 0 = 0 := e
  rw [List.getD_eq_getElem?_getD, List.getElem?_eq_getElem hk] at this
  simp only [Option.getD_some] at this
  rw [← this]; exact List.getElem_mem hk)
set_option maxHeartbeats 4000000 in
set_option maxRecDepth 100000 in
theorem produce_step (w0 w : World) (C Cx : List LV → Itm) (l : Nat) (vn : Value) (H : Itm) (V : List Int → Prop) (L : List (List Int)) (n : Nat) (hT : TabW w0) (hv : IsFn vn) (hNF : NarF w0 vn H n V) (Y : YieldC w0 C Cx l valL TL decL L) (ss : List Nat) (ih : ∀ ss2, ss2.sum < ss.sum → PrdOK w0 C Cx l vn H V L n ss2) (v : Value) (pre0 : List LV) (R : Itm) (hlen : ss.length = n) (hF : AllF ss) (hpf : (pre0.map decL ++ sols V ss) <+: L) (hn9 : n ≤ 1000) (M : Mem w0 w [C pre0, ownGI elW v ss, H, R]) :
    Calls Tryd.prog 61 #[v, vn, .func (.yield l) #[] #[]] w (PrdE w0 C Cx V ss pre0 [ownGI elW v ss, H, R]) := by
  obtain ⟨va, vc, rfl⟩ := rdG_form (mem_ownG (n := 1) rfl M)
  refine gc_enterK (nf := 57) (args := [_, _, _]) M Tryd.func61 rfl rfl (Nat.le_of_ble_eq_true rfl) (look_cons (k := 0) rfl (look_cons (k := 1) rfl (look_cons (k := 2) rfl (look_nil _)))) ?_
  clear M
  refine gc_seqD fun K1 hK1 => ?_
  refine gc_region ?_
  refine g_op (.free rfl) fun K3 hK3 => ?_
  refine go_box rfl rfl rfl rfl hv.cells ?_
  intro B2
  refine hK3 _ _ ?_
  refine g_op (.free rfl) fun K5 hK5 => ?_
  refine go_box rfl rfl rfl rfl rfl ?_
  intro B4
  refine hK5 _ _ ?_
  refine g_op (.free rfl) fun K7 hK7 => ?_
  refine go_alloc (z := (.bool false)) (cs := [.bool false]) rfl rfl rfl (fun w => by kernel_rfl) rfl ?_
  intro B6
  refine hK7 _ _ ?_
  refine g_nil ?_
  refine gk_then (hK1 _ _ ?_)
  refine gc_seqD fun K8 hK8 => ?_
  refine gc_region ?_
  refine g_v (.free rfl) rfl rfl (qt_move rfl rfl) ?_
  refine g_op (.free rfl) fun K10 hK10 => ?_
  refine go_callG rfl rfl rfl Tryd.func89 rfl (by decide) rfl (fun w M => cloneW_any w _ _ (mem_ownG (n := 2) rfl M)) ?_
  intro va9 vc9
  refine hK10 _ _ ?_
  refine g_op (.free rfl) fun K12 hK12 => ?_
  refine go_alloc (z := (.slice none 0 0)) (cs := [.slice none 0 0]) rfl rfl rfl (fun w => by kernel_rfl) rfl ?_
  intro B11
  refine hK12 _ _ ?_
  refine g_op (.free rfl) fun K13 hK13 => ?_
  refine go_storeB (n := 9) rfl rfl rfl rfl (by kernel_rfl) rfl rfl rfl (by first | decide | simp) ?_
  refine hK13 _ _ ?_
  refine g_nil ?_
  refine gk_then (hK8 _ _ ?_)
  refine gc_seqD fun K14 hK14 => ?_
  refine gc_seqD fun K15 hK15 => ?_
  refine gc_region ?_
  refine g_v (.free rfl) rfl rfl (qt_loadB (n := 5) rfl rfl Tryd.underlying71 rfl rfl rfl) ?_
  refine g_v (.free rfl) rfl rfl (qt_loadB (n := 9) rfl rfl Tryd.underlying68 rfl rfl rfl) ?_
  refine g_op (.free rfl) fun K16 hK16 => ?_
  refine go_nar (n := 8) (m := 3) rfl rfl rfl rfl rfl rfl rfl hNF hlen hF ?_
  intro ss1 hn1
  refine hK16 _ _ ?_
  refine g_v (.free rfl) rfl rfl (qt_not rfl rfl) ?_
  refine g_nil ?_
  refine gk_then (hK15 _ _ ?_)
  refine gc_cond rfl (fun hc0 => ?_) (fun hc0 => ?_)
  · try simp only [decide_eq_true_eq, decide_eq_false_iff_not, Bool.not_eq_true', Bool.not_eq_false', Bool.not_eq_eq_eq_not, Bool.not_true, Bool.not_false, ne_eq, Decidable.not_not, Classical.not_not] at hc0
    refine gc_seqD fun K17 hK17 => ?_
    refine gc_region ?_
    refine g_op (.free rfl) fun K18 hK18 => ?_
    refine go_storeB (n := 7) rfl rfl rfl rfl (by kernel_rfl) rfl rfl rfl (by first | decide | simp) ?_
    refine hK18 _ _ ?_
    refine g_nil ?_
    refine gk_then (hK17 _ _ ?_)
    refine gc_ret ?_
    refine gk_then_ret ?_
    try simp only [List.nil_append, List.cons_append, List.append_assoc, List.set_cons_succ, List.set_cons_zero]
    refine gk_marks (n := 0) rfl rfl ?_
    simp only [List.set_cons_zero, List.set_cons_succ]
    refine ret_c1 (n := 7) rfl rfl Tryd.underlying4 rfl rfl (fun w M => ?_)
    have hz : 0 ∈ ss1 := idxZ_mem.1 (by simpa using hc0)
    have hSS : sols V ss1 = sols V ss := sols_keep hF.w hn1.sub hn1.keep
    exact .inl ⟨rfl, [], by rw [← hSS, sols_none hz]; rfl, by rw [List.append_nil]; exact mem_erase 0 (mem_take 5 M)⟩
  · try simp only [decide_eq_true_eq, decide_eq_false_iff_not, Bool.not_eq_true', Bool.not_eq_false', Bool.not_eq_eq_eq_not, Bool.not_true, Bool.not_false, ne_eq, Decidable.not_not, Classical.not_not] at hc0
    refine gc_skip ?_
    refine gk_then (hK14 _ _ ?_)
    refine gc_seqD fun K19 hK19 => ?_
    have hw1 := hn1.F.w
    have hl1 : ss1.length = n := by rw [hn1.sub.1]; exact hlen
    have hSS : sols V ss1 = sols V ss := sols_keep hF.w hn1.sub hn1.keep
    have hz : 0 ∉ ss1 := fun h => by have := idxZ_mem.2 h; simp at hc0; omega
    refine gc_region ?_
    refine g_v (.free rfl) rfl rfl (qt_loadB (n := 9) rfl rfl Tryd.underlying68 rfl rfl rfl) ?_
    refine g_v (.free rfl) rfl rfl (qt_len rfl rfl ul_elW (fun w M => lenV_G (mem_ownG (n := 8) rfl M))) ?_
    refine g_op (.free rfl) fun K21 hK21 => ?_
    refine go_make1 rfl rfl rfl Tryd.underlying22 rfl rfl (by omega) ?_
    intro B20
    refine hK21 _ _ ?_
    refine g_v (.free rfl) rfl rfl (qt_assign rfl rfl) ?_
    refine g_nil ?_
    refine gk_then (hK19 _ _ ?_)
    refine gc_seqD fun K22 hK22 => ?_
    refine gc_seqD fun K23 hK23 => ?_
    refine gc_region ?_
    refine g_v (.free rfl) rfl rfl (qt_loadB (n := 9) rfl rfl Tryd.underlying68 rfl rfl rfl) ?_
    refine g_v (.free rfl) rfl rfl (qt_len rfl rfl ul_elW (fun w M => lenV_G (mem_ownG (n := 8) rfl M))) ?_
    refine g_v (.free rfl) rfl rfl (qt_move rfl rfl) ?_
    refine g_nil ?_
    refine gk_then (hK23 _ _ ?_)
    refine gc_block ?_
    try simp only [List.nil_append, List.cons_append, List.append_assoc, List.set_cons_succ, List.set_cons_zero]
    refine gc_loop ([(0, _), (1, _), (2, _), (4, _), (5, _), (6, _), (7, _), (8, _), (17, _), (21, _), (22, _)] : Env) (fun s : Nat × (List Int) => (fun (k : Nat) (ls : List Int) => ([(23, .int .i64 (k : Int))] : Env)) s.1 s.2) (fun s : Nat × (List Int) => (fun (k : Nat) (ls : List Int) => ([(10, own1I (.slice (some ⟨B20, 0, none⟩) ss1.length ss1.length) ls)] : List (Nat × Itm))) s.1 s.2) (fun s : Nat × (List Int) => (fun (k : Nat) (ls : List Int) => PL ss1 k ls) s.1 s.2) (fun s : Nat × (List Int) => (fun (k : Nat) (ls : List Int) => ss1.length - k) s.1 s.2) (0, List.replicate ss1.length 0) (sub_cons rfl (sub_cons rfl (sub_cons rfl (sub_cons rfl (sub_cons rfl (sub_cons rfl (sub_cons rfl (sub_cons rfl (sub_cons rfl (sub_cons rfl (sub_cons rfl (sub_cons rfl sub_nil)))))))))))) rfl (pL_zero _) ?_
    rintro ⟨k, ls⟩ hinv KL24 hKL24
    simp only [updL, List.foldl_cons, List.foldl_nil, List.set_cons_succ, List.set_cons_zero, List.cons_append, List.nil_append] at hinv hKL24 ⊢
    have hPL := hinv
    have hk := hPL.1; have hls := hPL.2.1
    refine gc_seqD fun K25 hK25 => ?_
    refine gc_region ?_
    refine g_v (.free rfl) rfl rfl (qt_lss rfl rfl rfl) ?_
    refine g_nil ?_
    refine gk_then (hK25 _ _ ?_)
    refine gc_seqD fun K26 hK26 => ?_
    refine gc_cond rfl (fun hc1 => ?_) (fun hc1 => ?_)
    · try simp only [decide_eq_true_eq, decide_eq_false_iff_not, Bool.not_eq_true', Bool.not_eq_false', Bool.not_eq_eq_eq_not, Bool.not_true, Bool.not_false, ne_eq, Decidable.not_not, Classical.not_not] at hc1
      refine gc_skip ?_
      refine gk_then (hK26 _ _ ?_)
      refine gc_seqD fun K27 hK27 => ?_
      refine gc_block ?_
      refine gc_seqD fun K28 hK28 => ?_
      refine gc_region ?_
      refine g_v (.free rfl) rfl rfl (qt_move rfl rfl) ?_
      refine g_v (.free rfl) rfl rfl (qt_index rfl rfl rfl ul_elW sz_elW (fun w M => lenA_G (mem_ownG (n := 8) rfl M)) (by omega) (by omega)) ?_
      refine g_v (.free rfl) rfl rfl (qt_loadG elW rfl rfl Tryd.underlying86 rfl (fun w M => mem_ownG (n := 8) rfl M) (by omega) (by omega)) ?_
      refine g_op (.free rfl) fun K30 hK30 => ?_
      refine go_alloc (z := (.int .i64 0)) (cs := [.int .i64 0]) rfl rfl rfl (fun w => by kernel_rfl) rfl ?_
      intro B29
      refine hK30 _ _ ?_
      refine g_op (.free rfl) fun K31 hK31 => ?_
      refine go_storeB (n := 11) rfl rfl rfl rfl (by kernel_rfl) rfl rfl rfl (by first | decide | simp) ?_
      refine hK31 _ _ ?_
      refine g_v (.free rfl) rfl rfl (qt_assign rfl rfl) ?_
      refine g_nil ?_
      refine gk_then (hK28 _ _ ?_)
      refine gc_seqD fun K32 hK32 => ?_
      have hs0 : getE elW ss1 (k : Int) ≠ 0 := ne_of_mem hz (by omega)
      have h64 := (bits_next hs0 (atW_lt hw1 _)).2.1
      try simp only [List.nil_append, List.cons_append, List.append_assoc, List.set_cons_succ, List.set_cons_zero]
      refine ga_start _ (fun w M => mem_erase 10 (M)) ?_
      refine ga_v 0 rfl (by kernel_rfl) (by kernel_rfl) (by kernel_rfl) (.free rfl) rfl rfl (qt_move rfl rfl) (fun _ _ _ h => h) ?_
      refine ga_v 1 rfl (by kernel_rfl) (by kernel_rfl) (by kernel_rfl) (.free rfl) rfl rfl (qt_loadB (n := 10) rfl rfl Tryd.underlying3 rfl rfl rfl) (fun _ _ _ h => h) ?_
      refine ga_v 2 rfl (by kernel_rfl) (by kernel_rfl) (by kernel_rfl) (.free rfl) rfl rfl (qt_move rfl rfl) (fun _ _ _ h => h) ?_
      refine ga_op 3 (by kernel_rfl) rfl (.free rfl) fun K33 hK33 => ?_
      refine go_q rfl rfl (qt_call rfl Tryd.func90 rfl (by decide) rfl (fun w M => tz_any w _ (hs0) (atW_lt hw1 _) (TabW.mem hT M))) ?_
      refine hK33 _ _ (fun w M => (mem_erase 10 (mem_take 12 M) :)) ?_
      refine ga_op 4 (by kernel_rfl) rfl (.free rfl) fun K34 hK34 => ?_
      refine go_v rfl rfl (qt_index rfl rfl rfl ulE1 szE1 (fun w M => lenA_own1 (n := 10) rfl M) (by omega) (by omega)) ?_
      refine hK34 _ _ (fun w M => (mem_erase 10 (mem_take 12 M) :)) ?_
      refine ga_op 5 (by kernel_rfl) rfl (.free rfl) fun K35 hK35 => ?_
      refine go_store1 (n := 10) rfl rfl rfl rfl (by kernel_rfl) rfl (by omega) (by omega) ?_
      refine hK35 _ _ (fun w M => (mem_erase 10 (mem_take 12 M) :)) ?_
      refine ga_done (by kernel_rfl) ?_
      refine gk_then (hK32 _ _ ?_)
      refine gc_seqD fun K36 hK36 => ?_
      refine gc_seqD fun K37 hK37 => ?_
      have e9 : at0 (ls.set (k : Int).toNat (tzN (getE elW ss1 (k : Int)) : Int)) (k : Int) = (tzN (getE elW ss1 (k : Int)) : Int) := by rw [Int.toNat_natCast, at0_put (by omega), if_pos rfl]
      refine gc_region ?_
      refine g_v (.free rfl) rfl rfl (qt_move rfl rfl) ?_
      refine g_v (.free rfl) rfl rfl (qt_move rfl rfl) ?_
      refine g_v (.free rfl) rfl rfl (qt_loadB (n := 11) rfl rfl Tryd.underlying3 rfl rfl rfl) ?_
      refine g_v (.free rfl) rfl rfl (qt_index rfl rfl rfl ulE1 szE1 (fun w M => lenA_own1 (n := 10) rfl M) (by omega) (by simp only [List.length_set]; omega)) ?_
      refine g_v (.free rfl) rfl rfl (qt_load1 rfl rfl Tryd.underlying2 rfl (fun w M => (mem_own1 (n := 10) M rfl).rd) (by omega) (by simp only [List.length_set]; omega)) ?_
      refine g_q (.free rfl) rfl rfl (qt_call rfl Tryd.func88 rfl (by decide) rfl (fun w M => only_any w _ (by rw [e9]; omega) (by rw [e9]; omega))) ?_
      refine g_v (.free rfl) rfl rfl (qt_eql rfl rfl rfl) ?_
      refine g_nil ?_
      refine gk_then (hK37 _ _ ?_)
      refine gc_cond rfl (fun hc2 => ?_) (fun hc2 => ?_)
      · try simp only [decide_eq_true_eq, decide_eq_false_iff_not, Bool.not_eq_true', Bool.not_eq_false', Bool.not_eq_eq_eq_not, Bool.not_true, Bool.not_false, ne_eq, Decidable.not_not, Classical.not_not] at hc2
        refine gc_exit ?_
        refine gk_then_exit ?_
        refine gk_block_hit ?_
        refine gk_then (hK27 _ _ ?_)
        refine gc_region ?_
        refine g_v (.free rfl) rfl rfl (qt_add rfl rfl rfl (by omega)) ?_
        refine g_v (.free rfl) rfl rfl (qt_move rfl rfl) ?_
        refine g_nil ?_
        refine gk_then (gk_take 11 ?_)
        refine gk_sub ?hs_38 (hKL24 (k + 1, _) ?hi_38 ?hm_38)
        case hs_38 => exact (sub_cons rfl (sub_cons rfl (sub_cons rfl (sub_cons rfl (sub_cons rfl (sub_cons rfl (sub_cons rfl (sub_cons rfl (sub_cons rfl (sub_cons rfl (sub_cons rfl (sub_cons rfl sub_nil))))))))))))
        case hi_38 => exact pL_next hPL (by omega) h64 (by exact_mod_cast hc2)
        case hm_38 => omega
      · try simp only [decide_eq_true_eq, decide_eq_false_iff_not, Bool.not_eq_true', Bool.not_eq_false', Bool.not_eq_eq_eq_not, Bool.not_true, Bool.not_false, ne_eq, Decidable.not_not, Classical.not_not] at hc2
        refine gc_skip ?_
        refine gk_then (hK36 _ _ ?_)
        refine gc_seqD fun K39 hK39 => ?_
        refine gc_seqD fun K40 hK40 => ?_
        have hne : getE elW ss1 (k : Int) ≠ onlyN (at0 (ls.set (k : Int).toNat (tzN (getE elW ss1 (k : Int)) : Int)) (k : Int)) := fun e => hc2 (by exact_mod_cast e)
        skip
        refine gc_region ?_
        refine g_v (.free rfl) rfl rfl (qt_move rfl rfl) ?_
        refine g_op (.free rfl) fun K42 hK42 => ?_
        refine go_callNum rfl rfl rfl Tryd.func91 rfl (by decide) rfl (fun w M => numbers_any w _) ?_
        intro B41
        refine hK42 _ _ ?_
        refine g_nil ?_
        refine gk_then (hK40 _ _ ?_)
        refine gc_block ?_
        rw [show C pre0 = CC C Cx true (pre0 ++ []) by rw [List.append_nil]; rfl]
        try simp only [List.nil_append, List.cons_append, List.append_assoc, List.set_cons_succ, List.set_cons_zero]
        refine gc_rangeF (α := Int) (σ := (List LV) × (List Nat) × Bool) 11 rfl rfl Tryd.func118 rfl (by decide) rfl (num_seq hT (atW_lt hw1 _)) (fun s : (List LV) × (List Nat) × Bool => (fun (ys : List LV) (ss2 : List Nat) (b : Bool) => ([(0, CC C Cx b (pre0 ++ ys)), (7, ownGI elW (.slice va9 ss.length vc9) ss2)] : List (Nat × Itm))) s.1 s.2.1 s.2.2) (fun (pre : List Int) => (fun s : (List LV) × (List Nat) × Bool => (fun (ys : List LV) (ss2 : List Nat) (b : Bool) => b = true ∧ ys.map decL = pre.flatMap (fun n => sols V (ss1.set k (onlyN n))) ∧ ss2.set k 0 = ss1.set k 0) s.1 s.2.1 s.2.2)) (fun (c : Code) (pre : List Int) => (fun s : (List LV) × (List Nat) × Bool => (fun (ys : List LV) (ss2 : List Nat) (b : Bool) => c = .ret ∧ b = false ∧ (ys.map decL) <+: sols V ss1) s.1 s.2.1 s.2.2)) ([], ss1, true) ⟨rfl, rfl, rfl⟩ rfl rfl rfl ?_ ?_ ?_ ?_
        · rintro l43 r43 js43 pre nn ⟨ys, ss2, b⟩ hinv hpre Ka43 Kb43 hKp43 hKa43 hKn43 hKr43 hKe43
          simp only [updL, List.foldl_cons, List.foldl_nil, List.take_succ_cons, List.take_zero, List.drop_succ_cons, List.drop_zero, List.set_cons_succ, List.set_cons_zero, List.cons_append, List.nil_append] at hinv hKn43 hKr43 hKe43 ⊢
          obtain ⟨rfl, hys, hss2⟩ := hinv
          rw [map_id'] at hpre
          have hb := bits40 (atW_F hn1.F _) (pre_mem hpre)
          have hb0 := hb.1; have hb1 := hb.2.1
          have hl2 : ss2.length = ss1.length := by have := congrArg List.length hss2; simpa using this
          have hlt : (ss1.set k (onlyN nn)).sum < ss.sum := Nat.lt_of_lt_of_le (only_sum (by omega) hb.2.2 (by omega) (by omega) (ne_only hne e9 (by omega) (by omega))) hn1.sub.sum
          have hpf2 : ((pre0 ++ ys).map decL ++ sols V (ss1.set k (onlyN nn))) <+: L := by rw [List.map_append, List.append_assoc]; refine pre_join hpf ?_; rw [← hSS, pL_split hPL hn1.F (by omega)]; exact flat_pre hpre hys (List.prefix_refl _)
          refine gc_region ?_
          refine g_v (.free rfl) rfl rfl (qt_assign rfl rfl) ?_
          refine g_nil ?_
          try simp only [List.nil_append, List.cons_append, List.append_assoc, List.set_cons_succ, List.set_cons_zero]
          refine gk_then (hKa43 _ _ ?_)
          refine gc_block ?_
          refine gc_seqD fun K44 hK44 => ?_
          try simp only [List.nil_append, List.cons_append, List.append_assoc, List.set_cons_succ, List.set_cons_zero]
          refine ga_start _ (fun w M => mem_erase 8 (M)) ?_
          refine ga_v 0 rfl (by kernel_rfl) (by kernel_rfl) (by kernel_rfl) (.free rfl) rfl rfl (qt_loadB (n := 8) rfl rfl Tryd.underlying68 rfl rfl rfl) (fun _ _ _ h => hKp43 _ _ _ _ h) ?_
          refine ga_v 1 rfl (by kernel_rfl) (by kernel_rfl) (by kernel_rfl) (.free rfl) rfl rfl (qt_loadB (n := 10) rfl rfl Tryd.underlying3 rfl rfl rfl) (fun _ _ _ h => hKp43 _ _ _ _ h) ?_
          refine ga_v 2 rfl (by kernel_rfl) (by kernel_rfl) (by kernel_rfl) (.free rfl) rfl rfl (qt_move rfl rfl) (fun _ _ _ h => hKp43 _ _ _ _ h) ?_
          refine ga_op 3 (by kernel_rfl) rfl (.free rfl) fun K45 hK45 => ?_
          refine go_q rfl rfl (qt_call rfl Tryd.func88 rfl (by decide) rfl (fun w M => only_any w _ (by omega) (by omega))) ?_
          refine hK45 _ _ (fun w M => (mem_erase 8 (mem_take 13 M) :)) ?_
          refine ga_op 4 (by kernel_rfl) rfl (.free rfl) fun K46 hK46 => ?_
          refine go_v rfl rfl (qt_index rfl rfl rfl ul_elW sz_elW (fun w M => lenA_G (mem_ownG (n := 8) rfl M)) (by omega) (by omega)) ?_
          refine hK46 _ _ (fun w M => (mem_erase 8 (mem_take 13 M) :)) ?_
          refine ga_op 5 (by kernel_rfl) rfl (.free rfl) fun K47 hK47 => ?_
          refine go_storeG elW (n := 8) rfl rfl rfl rfl (by kernel_rfl) rfl (by omega) (by omega) ?_
          refine hK47 _ _ (fun w M => (mem_erase 8 (mem_take 13 M) :)) ?_
          refine ga_done (by kernel_rfl) ?_
          refine gk_then (hK44 _ _ ?_)
          refine gc_seqD fun K48 hK48 => ?_
          have e12 : ss2.set (k : Int).toNat (onlyN nn) = ss1.set k (onlyN nn) := by rw [Int.toNat_natCast]; exact set_of hss2
          rw [e12]
          refine gc_region ?_
          refine g_v (.free rfl) rfl rfl (qt_loadB (n := 9) rfl rfl Tryd.underlying68 rfl rfl rfl) ?_
          refine g_v (.free rfl) rfl rfl (qt_loadB (n := 5) rfl rfl Tryd.underlying71 rfl rfl rfl) ?_
          refine g_v (.free rfl) rfl rfl (qt_loadB (n := 6) rfl rfl Tryd.underlying88 rfl rfl rfl) ?_
          refine g_callTF (X := List LV) (Y := List LV) (n := 1) (m := 7) (p := 2) (i := C (pre0 ++ ys)) (A := fun zs => CC C Cx true (pre0 ++ (ys ++ zs))) (B := fun zs => CC C Cx false (pre0 ++ (ys ++ zs))) (PX := fun zs => zs.map decL = sols V (ss1.set k (onlyN nn))) (PY := fun zs => (zs.map decL) <+: sols V (ss1.set k (onlyN nn))) (.free rfl) rfl rfl rfl Tryd.func61 rfl (by decide) rfl rfl rfl rfl (fun R w M => (ih _ hlt w _ (pre0 ++ ys) R (by simpa using hl1) (allF_only hn1.F hb.2.1) hpf2 M).mono (fun e w' h => by simpa only [PrdE, CC, List.append_assoc] using h)) ?_ ?_
          · skip
            intro zs hzs
            refine g_v (.free rfl) rfl rfl (qt_not rfl rfl) ?_
            refine g_nil ?_
            refine gk_then (hK48 _ _ ?_)
            refine gc_cond_f rfl ?_
            refine gc_skip ?_
            refine gk_block ?_
            try simp only [List.nil_append, List.cons_append, List.append_assoc, List.set_cons_succ, List.set_cons_zero]
            refine gk_take 13 ?_
            refine hKn43 ((ys ++ zs, _, true)) _ ?hi_49
            case hi_49 => exact ⟨rfl, by rw [List.map_append, hys, hzs, List.flatMap_append]; simp, by simp⟩
          · skip
            intro zs hzs
            refine g_v (.free rfl) rfl rfl (qt_not rfl rfl) ?_
            refine g_nil ?_
            refine gk_then (hK48 _ _ ?_)
            refine gc_cond_t rfl ?_
            refine gc_seqD fun K50 hK50 => ?_
            refine gc_region ?_
            refine g_op (.free rfl) fun K51 hK51 => ?_
            refine go_storeB (n := 7) rfl rfl rfl rfl (by kernel_rfl) rfl rfl rfl (by first | decide | simp) ?_
            refine hK51 _ _ ?_
            refine g_nil ?_
            refine gk_then (hK50 _ _ ?_)
            refine gc_ret ?_
            refine gk_block_ret ?_
            try simp only [List.nil_append, List.cons_append, List.append_assoc, List.set_cons_succ, List.set_cons_zero]
            refine gk_take 13 ?_
            refine hKr43 ((ys ++ zs, _, false)) _ ?hi_52
            case hi_52 => refine ⟨by trivial, by trivial, ?_⟩; rw [List.map_append, pL_split hPL hn1.F (by omega)]; exact flat_pre hpre hys hzs
        · rintro D43 xs ⟨ys, ss2, b⟩ hL hinv
          simp only [updL, List.foldl_cons, List.foldl_nil, List.take_succ_cons, List.take_zero, List.drop_succ_cons, List.drop_zero, List.set_cons_succ, List.set_cons_zero, List.cons_append, List.nil_append] at *
          obtain ⟨rfl, hys, hss2⟩ := hinv
          rw [map_id'] at hL
          subst hL
          refine gk_block ?_
          refine gk_then (hK39 _ _ ?_)
          refine gc_seqD fun K53 hK53 => ?_
          refine gc_region ?_
          refine g_op (.free rfl) fun K54 hK54 => ?_
          refine go_storeB (n := 7) rfl rfl rfl rfl (by kernel_rfl) rfl rfl rfl (by first | decide | simp) ?_
          refine hK54 _ _ ?_
          refine g_nil ?_
          refine gk_then (hK53 _ _ ?_)
          refine gc_ret ?_
          refine gk_block_ret ?_
          refine gk_then_ret ?_
          refine gk_then_ret ?_
          refine gk_block_ret ?_
          refine gk_then_ret ?_
          try simp only [List.nil_append, List.cons_append, List.append_assoc, List.set_cons_succ, List.set_cons_zero]
          refine gk_marks (n := 0) rfl rfl ?_
          simp only [List.set_cons_zero, List.set_cons_succ]
          refine ret_c1 (n := 7) rfl rfl Tryd.underlying4 rfl rfl (fun w M => ?_)
          exact .inl ⟨rfl, ys, by rw [hys, ← hSS, pL_split hPL hn1.F (by omega)], mem_erase 0 (mem_take 5 M)⟩
        · rintro D43 pre ⟨ys, ss2, b⟩ hL hinv
          simp only [updL, List.foldl_cons, List.foldl_nil, List.take_succ_cons, List.take_zero, List.drop_succ_cons, List.drop_zero, List.set_cons_succ, List.set_cons_zero, List.cons_append, List.nil_append] at *
          obtain ⟨_, rfl, hyp⟩ := hinv
          refine gk_block_ret ?_
          refine gk_then_ret ?_
          refine gk_block_ret ?_
          refine gk_then_ret ?_
          refine gk_then_ret ?_
          refine gk_block_ret ?_
          refine gk_then_ret ?_
          try simp only [List.nil_append, List.cons_append, List.append_assoc, List.set_cons_succ, List.set_cons_zero]
          refine gk_marks (n := 0) rfl rfl ?_
          simp only [List.set_cons_zero, List.set_cons_succ]
          refine ret_c1 (n := 7) rfl rfl Tryd.underlying4 rfl rfl (fun w M => ?_)
          exact .inr ⟨rfl, ys, by rw [← hSS]; exact hyp, mem_erase 0 (mem_take 5 M)⟩
        · rintro D43 id pre ⟨ys, ss2, b⟩ hL hinv; exact absurd hinv (by simp)
    · try simp only [decide_eq_true_eq, decide_eq_false_iff_not, Bool.not_eq_true', Bool.not_eq_false', Bool.not_eq_eq_eq_not, Bool.not_true, Bool.not_false, ne_eq, Decidable.not_not, Classical.not_not] at hc1
      refine gc_exit ?_
      refine gk_then_exit ?_
      refine gk_then_exit ?_
      refine gk_block_hit ?_
      refine gk_then (hK22 _ _ ?_)
      refine gc_seqD fun K55 hK55 => ?_
      obtain rfl : k = ss1.length := by omega
      have hso : sols V ss1 = [ls] := sols_one hPL.2.1 hPL.2.2 (hn1.one hz ls hPL.2.1 hPL.2.2)
      rw [← hSS, hso] at hpf
      refine gc_region ?_
      refine g_v (.free rfl) rfl rfl (qt_loadB (n := 6) rfl rfl Tryd.underlying88 rfl rfl rfl) ?_
      refine g_v (.free rfl) rfl rfl (qt_move rfl rfl) ?_
      refine g_yield ((.slice (some ⟨B20, 0, none⟩) ss1.length ss1.length, ls) : LV) (.free rfl) rfl rfl rfl rfl rfl Y (by rw [List.map_append]; exact hpf) (perm_pick2 (n := 1) (m := 9) rfl rfl) ?_ ?_
      · skip
        refine g_op (.free rfl) fun K56 hK56 => ?_
        refine go_storeB (n := 7) rfl rfl rfl rfl (by kernel_rfl) rfl rfl rfl (by first | decide | simp) ?_
        refine hK56 _ _ ?_
        refine g_nil ?_
        refine gk_then (hK55 _ _ ?_)
        refine gc_ret ?_
        try simp only [List.nil_append, List.cons_append, List.append_assoc, List.set_cons_succ, List.set_cons_zero]
        refine gk_marks (n := 1) rfl rfl ?_
        simp only [List.set_cons_zero, List.set_cons_succ]
        refine ret_c1 (n := 7) rfl rfl Tryd.underlying4 rfl rfl (fun w M => ?_)
        exact .inl ⟨rfl, [_], by rw [← hSS, hso]; rfl, mem_erase 1 (mem_take 5 M)⟩
      · skip
        refine g_op (.free rfl) fun K57 hK57 => ?_
        refine go_storeB (n := 7) rfl rfl rfl rfl (by kernel_rfl) rfl rfl rfl (by first | decide | simp) ?_
        refine hK57 _ _ ?_
        refine g_nil ?_
        refine gk_then (hK55 _ _ ?_)
        refine gc_ret ?_
        try simp only [List.nil_append, List.cons_append, List.append_assoc, List.set_cons_succ, List.set_cons_zero]
        refine gk_marks (n := 1) rfl rfl ?_
        simp only [List.set_cons_zero, List.set_cons_succ]
        refine ret_c1 (n := 7) rfl rfl Tryd.underlying4 rfl rfl (fun w M => ?_)
        exact .inr ⟨rfl, [_], by rw [← hSS, hso]; exact List.prefix_refl _, mem_erase 1 (mem_take 5 M)⟩
end Go.Proofs.YtfnneogadciimaaDoor
