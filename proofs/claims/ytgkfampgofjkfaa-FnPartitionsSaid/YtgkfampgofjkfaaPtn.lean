
/- The law of partitions on drawn codes: the meet is finer, the join is coarser, a partition is the join of its own pairs: its walk. -/
import Derived.Test.YtgkfampgofjkfaaEql
import Derived.Test.YtgkfampgofjkfaaMeetI
import Derived.Test.YtgkfampgofjkfaaJoinP
import Derived.Test.YtgkfampgofjkfaaJoinU
import Derived.Test.YtgkfampgofjkfaaPairs
import Derived.Test.YtgkfampgofjkfaaRul7
set_option linter.unusedSimpArgs false
set_option linter.unusedVariables false
set_option linter.unusedSectionVars false
namespace Go.Proofs.Ytgkfampgofjkfaa
open Go.RowKit


section
variable {w0 : World} {is : List Itm} {ops : Array Oper} {Q : Exit → Act → World → Prop} {o : Oper} {rest : List Oper} {N : Frm} {e : Env} {v : Value} {d : Nat} {K : Act → World → Prop} {f : FuncId} {fn : Func} {ags : Array Operand} {ts : Array TypeId} {vs : List Value}
theorem go_callTwoP (hd : o.dst = some d) (hN : Nat.blt d N = true) (hop : o.op = .call { callee := .value (.func f), args := ags, argTypes := ts }) (hfn : Try.prog.funcs[f]? = some fn) (hb : fn.body.isNone = false) (hn : (fn.name == "runtime.NumGoroutine") = false)
    (hargs : evoL e ags.toList = some vs) (hc : ∀ w, Mem w0 w is → Calls Try.prog f vs.toArray w (fun e w' => ∃ (xs ys : List Int) (y z : Value), e = .returned (.tuple #[y, z]) ∧ Sl w' w.heap.size y xs ∧ xs.length ≤ 301 ∧ Sl w' w.heap.size z ys ∧ ys.length ≤ 301 ∧ Below w.heap.size w w'))
    (hk : ∀ (xs ys : List Int) (a : Option Addr) (k : Nat) (b : Option Addr) (j : Nat), xs.length ≤ 301 → ys.length ≤ 301 → GK w0 (is ++ [twoI (.slice a xs.length k) (.slice b ys.length j) xs ys]) N K ((d, .tuple #[.slice a xs.length k, .slice b ys.length j]) :: e)) : GO w0 is N o e Q K := by
  intro w a M F
  refine go_call hd hN F hop hfn hb hn hargs (hc w M) fun e' w' hR => ?_
  obtain ⟨xs, ys, y, z, rfl, h1, l1, h2, l2, hbl⟩ := hR
  obtain ⟨ya, yc, rfl⟩ := rd_form h1.rd
  obtain ⟨za, zc, rfl⟩ := rd_form h2.rd
  exact ⟨_, rfl, fun a F => hk xs ys ya yc za zc l1 l2 w' a (mem_new M hbl ⟨own1_of h1, own1_of h2⟩) F⟩
end
/-! ### Its own pairs -/
def prB (p : List Int) (x y : Nat) : List (List Int) := ((List.range y).filter (fun (j : Nat) => decide (at0 p (x : Int) = at0 p (j : Int)))).map fun (j : Nat) => [(x : Int), (j : Int)]
def prA (p : List Int) : Nat → List (List Int)
  | 0 => []
  | x + 1 => prA p x ++ prB p x x
def prS (p : List Int) (x y : Nat) : List (List Int) := prA p x ++ prB p x y
theorem prS_zero (p : List Int) : prS p 0 0 = [] := by simp [prS, prA, prB]
theorem prS_t {p : List Int} {x y : Nat} (h : at0 p (x : Int) = at0 p (y : Int)) : prS p x y ++ [[(x : Int), (y : Int)]] = prS p x (y + 1) := by simp [prS, prB, List.range_succ, List.filter_append, h]
theorem prS_f {p : List Int} {x y : Nat} (h : ¬ at0 p (x : Int) = at0 p (y : Int)) : prS p x y = prS p x (y + 1) := by simp [prS, prB, List.range_succ, List.filter_append, h]
theorem prS_end (p : List Int) (x : Nat) : prS p x x = prS p (x + 1) 0 := by simp [prS, prA, prB]
theorem prB_len (p : List Int) (x y : Nat) : (prB p x y).length ≤ y := by
  unfold prB
  rw [List.length_map]
  exact Nat.le_trans (List.length_filter_le _ _) (by simp)
theorem prA_len (p : List Int) : ∀ x, x ≤ 301 → (prA p x).length ≤ 301 * x
  | 0, _ => by simp [prA]
  | x + 1, h => by
    have h1 := prA_len p x (by omega)
    have h2 := prB_len p x x
    simp only [prA, List.length_append]
    omega
theorem prS_len (p : List Int) {x y : Nat} (hx : x ≤ 301) (hy : y ≤ 301) : (prS p x y).length ≤ 100000 := by
  have h1 := prA_len p x hx
  have h2 := prB_len p x y
  simp only [prS, List.length_append]
  omega
theorem prA_mem {p : List Int} {r : List Int} : ∀ k, r ∈ prA p k ↔ ∃ x y : Nat, x < k ∧ y < x ∧ at0 p (x : Int) = at0 p (y : Int) ∧ r = [(x : Int), (y : Int)]
  | 0 => by simp [prA]
  | k + 1 => by
    simp only [prA, List.mem_append, prA_mem k, prB, List.mem_map, List.mem_filter, List.mem_range, decide_eq_true_eq]
    constructor
    · rintro (⟨x, y, hx, hy, he, rfl⟩ | ⟨y, ⟨hy, he⟩, rfl⟩)
      · exact ⟨x, y, by omega, hy, he, rfl⟩
      · exact ⟨k, y, by omega, hy, he, rfl⟩
    · rintro ⟨x, y, hx, hy, he, rfl⟩
      by_cases h : x = k
      · subst h; exact .inr ⟨y, ⟨hy, he⟩, rfl⟩
      · exact .inl ⟨x, y, by omega, hy, he, rfl⟩
theorem prS_mem {p : List Int} {r : List Int} {k : Nat} : r ∈ prS p k 0 ↔ ∃ x y : Nat, x < k ∧ y < x ∧ at0 p (x : Int) = at0 p (y : Int) ∧ r = [(x : Int), (y : Int)] := by
  rw [show prS p k 0 = prA p k from by simp [prS, prB]]; exact prA_mem k
theorem own_join {p : List Int} (hp : PartP p) : fJoinPairs (p.length : Int) (prS p p.length 0) = (p, 0) := by
  have hps : ∀ r ∈ prS p p.length 0, PairP p.length r := fun r hr => by
    obtain ⟨x, y, hx, hy, _, rfl⟩ := prS_mem.1 hr
    refine ⟨rfl, fun z hz => ?_⟩
    simp only [List.mem_cons, List.not_mem_nil, or_false] at hz
    rcases hz with rfl | rfl <;> omega
  unfold fJoinPairs
  rw [if_pos (show SizeP (p.length : Int) from ⟨by omega, by have := hp.1; omega⟩), if_pos (show PairsP (p.length : Int) (prS p p.length 0) from hps)]
  refine Prod.ext ?_ rfl
  show clsOf (implL ((p.length : Int).toNat) _) = p
  rw [Int.toNat_natCast, ← join_cls hps]
  refine cls_self rfl hp.2 fun i j hi hj => ⟨fun h => ?_, fun h => ?_⟩
  · refine relL_univ (r := fun i j => p.getD i 0 = p.getD j 0) hps ⟨fun _ => rfl, fun h => h.symm, fun h h' => h.trans h'⟩ (fun q hq => ?_) hi hj h
    obtain ⟨x, y, hx, hy, he, rfl⟩ := prS_mem.1 hq
    rw [at0_nat, at0_nat] at he
    exact he
  · have hlt : ∀ a b : Nat, a < p.length → b < a → p.getD a 0 = p.getD b 0 → RelL p.length (prS p p.length 0) a b := fun a b ha hb he => by
      have := relL_has hps (q := [(a : Int), (b : Int)]) (prS_mem.2 ⟨a, b, ha, hb, by rw [at0_nat, at0_nat]; exact he, rfl⟩)
      exact this
    rcases Nat.lt_trichotomy i j with h1 | h1 | h1
    · exact (hlt j i hj h1 h.symm).symm
    · subst h1; exact rfl
    · exact hlt i j hi h1 h
/-! ### The meet and the join -/
theorem part_lt {p : List Int} (h : PartP p) {k : Nat} (hk : k < p.length) : 0 ≤ p.getD k 0 ∧ p.getD k 0 < 256 := by
  have h1 := h.1
  have h2 := cls_nat p hk
  rw [← h.2, at0_nat] at h2
  omega
theorem meet_at {p q : List Int} (h : BothP p q) {x y : Nat} (hx : x < p.length) (hy : y < p.length) :
    at0 (clsOf (meetL p q p.length)) (x : Int) = at0 (clsOf (meetL p q p.length)) (y : Int) ↔ at0 p (x : Int) = at0 p (y : Int) ∧ at0 q (x : Int) = at0 q (y : Int) := by
  have hk := (ker_cls2 (meetL p q p.length)).2 x y (by rw [meetL_len]; exact hx) (by rw [meetL_len]; exact hy)
  have hg : ∀ k : Nat, k < p.length → (meetL p q p.length).getD k 0 = p.getD k 0 * 256 + q.getD k 0 := fun k hk => by simp [meetL, List.getD_eq_getElem?_getD, hk]
  rw [hg x hx, hg y hy] at hk
  have b1 := part_lt h.2.1 (k := x) (by rw [← h.2.2]; exact hx)
  have b2 := part_lt h.2.1 (k := y) (by rw [← h.2.2]; exact hy)
  simp only [at0_nat]
  rw [← hk]
  omega
theorem join_at {p q : List Int} (h : BothP p q) {x y : Nat} (hx : x < p.length) (hy : y < p.length) (he : at0 p (x : Int) = at0 p (y : Int) ∨ at0 q (x : Int) = at0 q (y : Int)) :
    at0 (clsOf (implL p.length (plist p p.length ++ plist q q.length))) (x : Int) = at0 (clsOf (implL p.length (plist p p.length ++ plist q q.length))) (y : Int) := by
  have hpq := h.2.2
  have hps : ∀ r ∈ plist p p.length ++ plist q q.length, PairP p.length r := fun r hr => by
    rcases List.mem_append.1 hr with hr | hr
    · exact plist_pairs p r hr
    · rw [hpq]; exact plist_pairs q r hr
  rw [← join_cls hps]
  have hk := (ker_cls2 (specL p.length (plist p p.length ++ plist q q.length))).2 x y (by rw [specL_len]; exact hx) (by rw [specL_len]; exact hy)
  rw [at0_nat, at0_nat]
  refine hk.1 ?_
  have one : ∀ (s : List Int) (a : Nat), s.length = p.length → a < s.length → (∀ r ∈ plist s s.length, r ∈ plist p p.length ++ plist q q.length) → RelL p.length (plist p p.length ++ plist q q.length) (s.idxOf (s.getD a 0)) a := fun s a hs ha hsub => by
    have := relL_has hps (q := [(s.idxOf (s.getD a 0) : Int), (a : Int)]) (hsub _ (by simp only [plist, List.mem_map, List.mem_range]; exact ⟨a, ha, rfl⟩))
    exact this
  have two : ∀ (s : List Int), s.length = p.length → (∀ r ∈ plist s s.length, r ∈ plist p p.length ++ plist q q.length) → s.getD x 0 = s.getD y 0 → RelL p.length (plist p p.length ++ plist q q.length) x y := fun s hs hsub hxy => by
    have h1 := one s x hs (by omega) hsub
    have h2 := one s y hs (by omega) hsub
    rw [hxy] at h1
    exact h1.symm.trans h2
  rw [at0_nat, at0_nat, at0_nat, at0_nat] at he
  rcases he with he | he
  · exact two p rfl (fun r hr => List.mem_append_left _ hr) he
  · exact two q hpq.symm (fun r hr => List.mem_append_right _ hr) he
theorem part_facts {p q m j : List Int} {r1 r2 : Int} (hM : fMeetPartitions p q = (m, r1)) (hJ : fJoinPartitions p q = (j, r2)) : r2 = r1 ∧ (r1 = 0 → PartP p ∧ PartP q ∧ p.length = q.length ∧ m.length = p.length ∧ j.length = p.length ∧ fIsPartition m = true ∧ fIsPartition j = true ∧
    (∀ x y : Nat, x < p.length → y < p.length → (at0 m (x : Int) = at0 m (y : Int) ↔ at0 p (x : Int) = at0 p (y : Int) ∧ at0 q (x : Int) = at0 q (y : Int))) ∧ ∀ x y : Nat, x < p.length → y < p.length → (at0 p (x : Int) = at0 p (y : Int) ∨ at0 q (x : Int) = at0 q (y : Int)) → at0 j (x : Int) = at0 j (y : Int)) := by
  unfold fMeetPartitions at hM
  unfold fJoinPartitions at hJ
  by_cases h : BothP p q
  · rw [if_pos h] at hM hJ
    simp only [Prod.mk.injEq] at hM hJ
    obtain ⟨rfl, rfl⟩ := hM
    obtain ⟨rfl, rfl⟩ := hJ
    have h256 := h.1.1
    refine ⟨rfl, fun _ => ⟨h.1, h.2.1, h.2.2, by rw [clsOf_len, meetL_len], by rw [clsOf_len, implL_len], decide_eq_true ?_, decide_eq_true ?_, fun x y hx hy => meet_at h hx hy, fun x y hx hy he => join_at h hx hy he⟩⟩
    · exact ⟨by rw [clsOf_len, meetL_len]; exact h256, cls_ker (ker_cls2 _)⟩
    · exact ⟨by rw [clsOf_len, implL_len]; exact h256, cls_ker (ker_cls2 _)⟩
  · rw [if_neg h] at hM hJ
    simp only [Prod.mk.injEq] at hM hJ
    exact ⟨hJ.2.symm.trans hM.2, fun h0 => by omega⟩
theorem four (P R : Prop) : (P ∧ R) ∨ (P ∧ ¬ R) ∨ (¬ P ∧ R) ∨ (¬ P ∧ ¬ R) := by
  by_cases h : P <;> by_cases h' : R <;> simp [h, h']
/-! ### The draws -/
theorem below_up {w w' : World} {g : Nat} (hb : Below w.heap.size w w') : w.grownBy w' (some g) := ⟨hb.os, hb.tape, hb.output, hb.size, fun i hi _ => hb.block i hi⟩
set_option maxHeartbeats 800000 in
set_option maxRecDepth 100000 in
theorem partition_any (w : World) (g : Nat) (v : Value) (m : Int) (h : Src w g v) :
    Calls Try.prog 87 #[v, .int .i64 m] w (fun e w' => ∃ (xs : List Int) (y : Value), e = .returned y ∧ Sl w' w.heap.size y xs ∧ xs.length ≤ 301 ∧ Src w' g v ∧ w.grownBy w' (some g)) := by
  have hgw := h.lt
  go_enter Try.func87, Try.ntmps87
  go_wp2_with fail
  refine (next_any _ g _ _ h (by omega)).mono ?_; rintro e w1 ⟨r, rfl, hr0, hr1, hs1, hgr1⟩
  go_wp2_with fail
  refine (maps_any _ g _ _ _ hs1 (by omega)).mono ?_; rintro e w2 ⟨xs, y, rfl, hx, hxl, hs2, hgr2⟩
  go_wp2_with fail
  refine (specClasses_any _ _ _ hx.rd).mono ?_; rintro e w3 ⟨z, rfl, hz, hb3⟩
  have hs3 : Src w3 g v := hs2.keep (by have := hs2.lt; exact ⟨hb3.os, hb3.tape, hb3.output, hb3.size, fun i hi => hb3.block i (by omega)⟩)
  have hga := grown_trans (grown_trans hgr1 hgr2) (below_up (g := g) hb3)
  have hz1 : Sl w3 w.heap.size z (clsOf xs) := hz.mono (Nat.le_trans hgr1.size hgr2.size)
  have hcl : (clsOf xs).length ≤ 301 := by rw [clsOf_len]; exact hxl
  clear hxl
  generalize clsOf xs = c at hz1 hcl
  clear hz hx hs2 hs1 hgr2 hgr1 hb3 hr1 h
  obtain ⟨a, cap, rfl, hform⟩ := sl_form hz1
  have HF := Lib.hid hform; clear hform
  go_wp2_with fail
  refine (next_any _ g _ _ hs3 (by omega)).mono ?_; rintro e w4 ⟨r2, rfl, hr20, hr21, hs4, hgr4⟩
  have hz2 := sl_kept hz1 hgr4 (.inr (not_own hz1 hgw))
  have hgb := grown_trans hga hgr4
  by_cases hr : r2 = 0
  · subst hr
    by_cases hc : 0 < c.length
    · obtain ⟨gg, rfl⟩ := HF.out 0 hc
      go_wp2_with fail
      refine (next_any _ g _ _ hs4 (by omega)).mono ?_; rintro e w5 ⟨r3, rfl, hr30, hr31, hs5, hgr5⟩
      obtain ⟨k3, rfl⟩ := Int.eq_ofNat_of_zero_le hr30
      have hk3 : k3 < c.length := by omega
      have hz3 := sl_kept hz2 hgr5 (.inr (not_own hz2 hgw))
      have hgc := grown_trans hgb hgr5
      go_wp2_with fail
      refine (next_any _ g _ _ hs5 (by omega)).mono ?_; rintro e w6 ⟨r4, rfl, hr40, hr41, hs6, hgr6⟩
      have hz4 := sl_kept hz3 hgr6 (.inr (not_own hz3 hgw))
      have hgd := grown_trans hgc hgr6
      have c1 := sl_cell hz4 hk3; have fr := sl_frozen hz4 k3
      have hst := Lib.hid (sl_set hz4 k3 (r4 - 1))
      have hlo := (sl_lt hz4).1
      clear hz3 hz2 hz1 hs3 hs4 hs5 hr31 hga hgb hgc hgr4 hgr5 hgr6
      have HS := Lib.hid hs6; have HG := Lib.hid hgd; have HZ := Lib.hid hz4; clear hs6 hgd hz4
      go_wp2
      go_ret
      exact ⟨c.set k3 (r4 - 1), _, rfl, hst.out.1, by simpa using hcl, HS.out.keep ((Below.refl (g + 1) _).grown hst.out.2 HS.out.lt fun j hj => by simp at hj; omega), grown_mix HG.out HZ.out hst.out.2⟩
    · go_wp2
      go_ret
      exact ⟨c, _, rfl, hz2, hcl, hs4, hgb⟩
  · have hr2 : (r2 == 0) = false := by simpa using hr
    go_wp2
    go_ret
    exact ⟨c, _, rfl, hz2, hcl, hs4, hgb⟩
set_option maxHeartbeats 800000 in
set_option maxRecDepth 100000 in
theorem twoParts_any (w : World) (v : Value) (h : InB w v) :
    Calls Try.prog 56 #[v] w (fun e w' => ∃ (xs ys : List Int) (y z : Value), e = .returned (.tuple #[y, z]) ∧ Sl w' w.heap.size y xs ∧ xs.length ≤ 301 ∧ Sl w' w.heap.size z ys ∧ ys.length ≤ 301 ∧ Below w.heap.size w w') := by
  go_enter Try.func56, Try.ntmps56
  go_wp2_with fail
  refine (from_any _ _ h).mono ?_; rintro e w1 ⟨g, y, rfl, hs, hg, hb⟩
  go_wp2_with fail
  refine (next_any _ g _ _ hs (by omega)).mono ?_; rintro e w2 ⟨m, rfl, hm0, hm1, hs2, hgr2⟩
  have hb2 := below_src hb hg hgr2
  go_wp2_with fail
  refine (partition_any _ g _ _ hs2).mono ?_; rintro e w3 ⟨xs, z, rfl, hx, hxl, hs3, hgr3⟩
  have hb3 := below_src hb2 hg hgr3
  go_wp2_with fail
  refine (next_any _ g _ _ hs3 (by omega)).mono ?_; rintro e w4 ⟨r, rfl, hr0, hr1, hs4, hgr4⟩
  have hb4 := below_src hb3 hg hgr4
  have hx4 := sl_kept hx hgr4 (.inr (not_own hx hs2.lt))
  by_cases hr : r = 0
  · subst hr
    go_wp2_with fail
    refine (partition_any _ g _ _ hs4).mono ?_; rintro e w5 ⟨ys, u, rfl, hy, hyl, hs5, hgr5⟩
    have hx5 := sl_kept hx4 hgr5 (.inr (not_own hx4 hs2.lt))
    go_wp2
    go_ret2
    exact ⟨xs, ys, z, u, rfl, hx5.mono hb2.size, hxl, hy.mono hb4.size, hyl, below_src hb4 hg hgr5⟩
  · have hr2 : (r == 0) = false := by simpa using hr
    go_wp2_with fail
    refine (partition_any _ g _ _ hs4).mono ?_; rintro e w5 ⟨ys, u, rfl, hy, hyl, hs5, hgr5⟩
    have hx5 := sl_kept hx4 hgr5 (.inr (not_own hx4 hs2.lt))
    go_wp2
    go_ret2
    exact ⟨xs, ys, z, u, rfl, hx5.mono hb2.size, hxl, hy.mono hb4.size, hyl, below_src hb4 hg hgr5⟩
set_option maxHeartbeats 800000 in
set_option maxRecDepth 100000 in
theorem drawMeet_any (w : World) (v : Value) (h : InB w v) :
    Calls Try.prog 26 #[v] w (fun e w' => ∃ (xs ys : List Int) (y z : Value), e = .returned (.tuple #[y, z]) ∧ Sl w' w.heap.size y xs ∧ xs.length ≤ 301 ∧ Sl w' w.heap.size z ys ∧ ys.length ≤ 301 ∧ Below w.heap.size w w') := by
  go_enter Try.func26, Try.ntmps26
  go_wp2_with fail
  refine (twoParts_any _ _ h).mono ?_; rintro e w1 ⟨xs, ys, y, z, rfl, hs, hl, hs2, hl2, hb⟩
  go_wp2
  go_ret2
  exact ⟨xs, ys, y, z, rfl, hs, hl, hs2, hl2, hb⟩

set_option maxHeartbeats 4000000 in
set_option maxRecDepth 100000 in
theorem ptnWalk (w : World) (ca : Option Addr) (clen ccap : Nat) (h : InB w (.slice ca clen ccap)) (hcl : clen ≤ 9223372036854775807) :
    Calls Try.prog 7 #[.slice ca clen ccap] w (RetB w true) := by
  go_enter Try.func7, Try.ntmps7
  refine gc_enter (N := 188) rfl (look_cons (k := 0) rfl (look_nil _)) ?_
  refine gc_seq fun K1 hK1 => ?_
  refine gc_region ?_
  refine g_v (.free rfl) rfl rfl (qt_assign rfl rfl) ?_
  refine g_nil ?_
  refine gk_then (hK1 _ _ ?_)
  refine gc_seq fun K2 hK2 => ?_
  refine gc_seq fun K3 hK3 => ?_
  refine gc_region ?_
  refine g_v (.free rfl) rfl rfl (qt_move rfl rfl) ?_
  refine g_q (.free rfl) rfl rfl (qt_call rfl Try.func25 rfl (by decide) rfl (fun w M => bigN_any w _ _ _ (by first | assumption | omega))) ?_
  refine g_nil ?_
  refine gk_then (hK3 _ _ ?_)
  refine gc_cond rfl (fun hc0 => ?_) (fun hc0 => ?_)
  · try simp only [decide_eq_true_eq, decide_eq_false_iff_not, Bool.not_eq_true', Bool.not_eq_false', Bool.not_eq_eq_eq_not, Bool.not_true, Bool.not_false, ne_eq, Decidable.not_not, Classical.not_not] at hc0
    refine gc_seq fun K4 hK4 => ?_
    refine gc_region ?_
    refine g_v (.free rfl) rfl rfl (qt_assign rfl rfl) ?_
    refine g_nil ?_
    refine gk_then (hK4 _ _ ?_)
    refine gc_ret ?_
    refine gk_then_ret ?_
    refine ret_1 rfl rfl  (fun w M => ?_)
    exact ⟨rfl, M.1⟩
  · try simp only [decide_eq_true_eq, decide_eq_false_iff_not, Bool.not_eq_true', Bool.not_eq_false', Bool.not_eq_eq_eq_not, Bool.not_true, Bool.not_false, ne_eq, Decidable.not_not, Classical.not_not] at hc0
    refine gc_skip ?_
    refine gk_then (hK2 _ _ ?_)
    refine gc_seq fun K5 hK5 => ?_
    refine gc_region ?_
    refine g_v (.free rfl) rfl rfl (qt_move rfl rfl) ?_
    refine g_op (.free rfl) fun K7 hK7 => ?_
    refine go_callTwoP rfl rfl rfl Try.func26 rfl (by decide) rfl (fun w M => drawMeet_any w _ (inb_below M.1 h)) ?_
    intro f g fa fk ga gk hlf hlg
    refine hK7 _ _ ?_
    refine g_v (.free rfl) rfl rfl (qt_move rfl rfl) ?_
    refine g_v (.free rfl) rfl rfl (qt_extract rfl rfl rfl) ?_
    refine g_v (.free rfl) rfl rfl (qt_extract rfl rfl rfl) ?_
    refine g_v (.free rfl) rfl rfl (qt_assign rfl rfl) ?_
    refine g_v (.free rfl) rfl rfl (qt_assign rfl rfl) ?_
    refine g_nil ?_
    refine gk_then (hK5 _ _ ?_)
    refine gc_seq fun K8 hK8 => ?_
    obtain ⟨m, r1, jn, r2, hMm, hJm⟩ : ∃ m r1 jn r2, fMeetPartitions f g = (m, r1) ∧ fJoinPartitions f g = (jn, r2) := ⟨_, _, _, _, rfl, rfl⟩
    have hfc := part_facts hMm hJm
    have HMi := fun (w : World) (v u : Value) (h1 : Rd w v f) (h2 : Rd w u g) => impl_MeetPartitions w v f u g h1 h2
    simp only [hMm] at HMi
    have HMs := fun (w : World) (v u : Value) (h1 : Rd w v f) (h2 : Rd w u g) => spec_MeetPartitions w v f u g h1 h2
    simp only [hMm] at HMs
    have HJi := fun (w : World) (v u : Value) (h1 : Rd w v f) (h2 : Rd w u g) => impl_JoinPartitions w v f u g h1 h2
    simp only [hJm] at HJi
    have HJs := fun (w : World) (v u : Value) (h1 : Rd w v f) (h2 : Rd w u g) => spec_JoinPartitions w v f u g h1 h2
    simp only [hJm] at HJs
    refine gc_region ?_
    refine g_v (.free rfl) rfl rfl (qt_move rfl rfl) ?_
    refine g_v (.free rfl) rfl rfl (qt_move rfl rfl) ?_
    refine g_op (.free rfl) fun K10 hK10 => ?_
    refine go_callLI rfl rfl rfl Try.func23 rfl (by decide) rfl (fun w M => HMi w _ _ (two_rd1 (n := 0) M rfl) (two_rd2 (n := 0) M rfl)) ?_
    intro va9 vc9
    refine hK10 _ _ ?_
    refine g_v (.free rfl) rfl rfl (qt_move rfl rfl) ?_
    refine g_v (.free rfl) rfl rfl (qt_extract rfl rfl rfl) ?_
    refine g_v (.free rfl) rfl rfl (qt_extract rfl rfl rfl) ?_
    refine g_v (.free rfl) rfl rfl (qt_assign rfl rfl) ?_
    refine g_v (.free rfl) rfl rfl (qt_assign rfl rfl) ?_
    refine g_nil ?_
    refine gk_then (hK8 _ _ ?_)
    refine gc_seq fun K11 hK11 => ?_
    refine gc_region ?_
    refine g_v (.free rfl) rfl rfl (qt_move rfl rfl) ?_
    refine g_v (.free rfl) rfl rfl (qt_move rfl rfl) ?_
    refine g_op (.free rfl) fun K13 hK13 => ?_
    refine go_callLI rfl rfl rfl Try.func27 rfl (by decide) rfl (fun w M => HJi w _ _ (two_rd1 (n := 0) M rfl) (two_rd2 (n := 0) M rfl)) ?_
    intro va12 vc12
    refine hK13 _ _ ?_
    refine g_v (.free rfl) rfl rfl (qt_move rfl rfl) ?_
    refine g_v (.free rfl) rfl rfl (qt_extract rfl rfl rfl) ?_
    refine g_v (.free rfl) rfl rfl (qt_extract rfl rfl rfl) ?_
    refine g_v (.free rfl) rfl rfl (qt_assign rfl rfl) ?_
    refine g_v (.free rfl) rfl rfl (qt_assign rfl rfl) ?_
    refine g_nil ?_
    refine gk_then (hK11 _ _ ?_)
    refine gc_seq fun K14 hK14 => ?_
    refine gc_region ?_
    refine g_v (.free rfl) rfl rfl (qt_move rfl rfl) ?_
    refine g_v (.free rfl) rfl rfl (qt_move rfl rfl) ?_
    refine g_op (.free rfl) fun K16 hK16 => ?_
    refine go_callLI rfl rfl rfl Try.func22 rfl (by decide) rfl (fun w M => HMs w _ _ (two_rd1 (n := 0) M rfl) (two_rd2 (n := 0) M rfl)) ?_
    intro va15 vc15
    refine hK16 _ _ ?_
    refine g_v (.free rfl) rfl rfl (qt_move rfl rfl) ?_
    refine g_v (.free rfl) rfl rfl (qt_extract rfl rfl rfl) ?_
    refine g_v (.free rfl) rfl rfl (qt_extract rfl rfl rfl) ?_
    refine g_v (.free rfl) rfl rfl (qt_assign rfl rfl) ?_
    refine g_v (.free rfl) rfl rfl (qt_assign rfl rfl) ?_
    refine g_nil ?_
    refine gk_then (hK14 _ _ ?_)
    refine gc_seq fun K17 hK17 => ?_
    refine gc_region ?_
    refine g_v (.free rfl) rfl rfl (qt_move rfl rfl) ?_
    refine g_v (.free rfl) rfl rfl (qt_move rfl rfl) ?_
    refine g_op (.free rfl) fun K19 hK19 => ?_
    refine go_callLI rfl rfl rfl Try.func28 rfl (by decide) rfl (fun w M => HJs w _ _ (two_rd1 (n := 0) M rfl) (two_rd2 (n := 0) M rfl)) ?_
    intro va18 vc18
    refine hK19 _ _ ?_
    refine g_v (.free rfl) rfl rfl (qt_move rfl rfl) ?_
    refine g_v (.free rfl) rfl rfl (qt_extract rfl rfl rfl) ?_
    refine g_v (.free rfl) rfl rfl (qt_extract rfl rfl rfl) ?_
    refine g_v (.free rfl) rfl rfl (qt_assign rfl rfl) ?_
    refine g_v (.free rfl) rfl rfl (qt_assign rfl rfl) ?_
    refine g_nil ?_
    refine gk_then (hK17 _ _ ?_)
    refine gc_seq fun K20 hK20 => ?_
    refine gc_seq fun K21 hK21 => ?_
    refine gc_region ?_
    refine g_v (.free rfl) rfl rfl (qt_move rfl rfl) ?_
    refine g_v (.free rfl) rfl rfl (qt_move rfl rfl) ?_
    refine g_v (.free rfl) rfl rfl (qt_neq_f rfl rfl rfl (fun h => h rfl)) ?_
    refine g_v (.free rfl) rfl rfl (qt_move rfl rfl) ?_
    refine g_v (.held _ _ _ rfl rfl rfl) rfl rfl (qt_move rfl rfl) ?_
    refine g_v (.held _ _ _ rfl rfl rfl) rfl rfl (qt_move rfl rfl) ?_
    refine g_v (.held _ _ _ rfl rfl rfl) rfl rfl (qt_neq_f rfl rfl rfl (fun h => h rfl)) ?_
    refine g_v (.free rfl) rfl rfl (qt_pick_f rfl rfl rfl) ?_
    refine g_v (.free rfl) rfl rfl (qt_move rfl rfl) ?_
    refine g_v (.held _ _ _ rfl rfl rfl) rfl rfl (qt_move rfl rfl) ?_
    refine g_v (.held _ _ _ rfl rfl rfl) rfl rfl (qt_move rfl rfl) ?_
    refine g_q (.held _ _ _ rfl rfl rfl) rfl rfl (qt_call rfl Try.func29 rfl (by decide) rfl (fun w M => like_refl_any w _ _ _ ((mem_own1 (n := 1) M rfl).rd) ((mem_own1 (n := 3) M rfl).rd))) ?_
    refine g_v (.held _ _ _ rfl rfl rfl) rfl rfl (qt_not rfl rfl) ?_
    refine g_v (.free rfl) rfl rfl (qt_pick_f rfl rfl rfl) ?_
    refine g_v (.free rfl) rfl rfl (qt_move rfl rfl) ?_
    refine g_v (.held _ _ _ rfl rfl rfl) rfl rfl (qt_move rfl rfl) ?_
    refine g_v (.held _ _ _ rfl rfl rfl) rfl rfl (qt_move rfl rfl) ?_
    refine g_q (.held _ _ _ rfl rfl rfl) rfl rfl (qt_call rfl Try.func29 rfl (by decide) rfl (fun w M => like_refl_any w _ _ _ ((mem_own1 (n := 2) M rfl).rd) ((mem_own1 (n := 4) M rfl).rd))) ?_
    refine g_v (.held _ _ _ rfl rfl rfl) rfl rfl (qt_not rfl rfl) ?_
    refine g_v (.free rfl) rfl rfl (qt_pick_f rfl rfl rfl) ?_
    refine g_nil ?_
    refine gk_then (hK21 _ _ ?_)
    refine gc_cond_f rfl ?_
    refine gc_skip ?_
    refine gk_then (hK20 _ _ ?_)
    refine gc_seq fun K22 hK22 => ?_
    refine gc_seq fun K23 hK23 => ?_
    refine gc_region ?_
    refine g_v (.free rfl) rfl rfl (qt_move rfl rfl) ?_
    refine g_v (.free rfl) rfl rfl (qt_neq rfl rfl rfl) ?_
    refine g_nil ?_
    refine gk_then (hK23 _ _ ?_)
    refine gc_cond rfl (fun hc1 => ?_) (fun hc1 => ?_)
    · try simp only [decide_eq_true_eq, decide_eq_false_iff_not, Bool.not_eq_true', Bool.not_eq_false', Bool.not_eq_eq_eq_not, Bool.not_true, Bool.not_false, ne_eq, Decidable.not_not, Classical.not_not] at hc1
      refine gc_seq fun K24 hK24 => ?_
      refine gc_region ?_
      refine g_v (.free rfl) rfl rfl (qt_move rfl rfl) ?_
      refine g_v (.free rfl) rfl rfl (qt_move rfl rfl) ?_
      refine g_v (.free rfl) rfl rfl (qt_eql rfl rfl rfl) ?_
      refine g_v (.free rfl) rfl rfl (qt_assign rfl rfl) ?_
      refine g_nil ?_
      refine gk_then (hK24 _ _ ?_)
      refine gc_ret ?_
      refine gk_then_ret ?_
      refine ret_1 rfl rfl  (fun w M => ?_)
      refine ⟨?_, M.1⟩; simp [hfc.1]
    · try simp only [decide_eq_true_eq, decide_eq_false_iff_not, Bool.not_eq_true', Bool.not_eq_false', Bool.not_eq_eq_eq_not, Bool.not_true, Bool.not_false, ne_eq, Decidable.not_not, Classical.not_not] at hc1
      refine gc_skip ?_
      refine gk_then (hK22 _ _ ?_)
      refine gc_seq fun K25 hK25 => ?_
      obtain ⟨hPf, hPg, hfg, hml, hjl, hPm, hPj, hK, hJ⟩ := hfc.2 (by omega)
      have h256 := hPf.1
      have HPm := fun (w : World) (v : Value) (h : Rd w v m) => impl_IsPartition w v m h
      simp only [hPm] at HPm
      have HPj := fun (w : World) (v : Value) (h : Rd w v jn) => impl_IsPartition w v jn h
      simp only [hPj] at HPj
      have HJP := fun (w : World) (v : Value) (h : Rd2 w v (prS f f.length 0)) => impl_JoinPairs w (f.length : Int) v _ h
      simp only [own_join hPf] at HJP
      refine gc_region ?_
      refine g_op (.free rfl) fun K27 hK27 => ?_
      refine go_sliceR0 rfl rfl rfl Try.underlying23 ?_
      intro B26
      refine hK27 _ _ ?_
      refine g_v (.free rfl) rfl rfl (qt_assign rfl rfl) ?_
      refine g_nil ?_
      refine gk_then (hK25 _ _ ?_)
      refine gc_seq fun K28 hK28 => ?_
      refine gc_seq fun K29 hK29 => ?_
      refine gc_region ?_
      refine g_v (.free rfl) rfl rfl (qt_assign rfl rfl) ?_
      refine g_nil ?_
      refine gk_then (hK29 _ _ ?_)
      refine gc_block ?_
      try simp only [List.nil_append, List.cons_append, List.append_assoc, List.set_cons_succ, List.set_cons_zero]
      refine gc_loop ([(0, _), (3, _), (4, _), (5, _), (6, _), (7, _), (8, _), (9, _), (10, _), (11, _), (12, _), (20, _), (69, _), (71, _)] : Env) (fun s : Nat × (Option Addr) × Nat × (List Value) => (fun (k : Nat) (a : Option Addr) (q : Nat) (us : List Value) => ([(13, .slice a (prS f k 0).length q), (14, .int .i64 (k : Int))] : Env)) s.1 s.2.1 s.2.2.1 s.2.2.2) (fun s : Nat × (Option Addr) × Nat × (List Value) => (fun (k : Nat) (a : Option Addr) (q : Nat) (us : List Value) => ([(5, own2U (.slice a (prS f k 0).length q) us (prS f k 0))] : List (Nat × Itm))) s.1 s.2.1 s.2.2.1 s.2.2.2) (fun s : Nat × (Option Addr) × Nat × (List Value) => (fun (k : Nat) (a : Option Addr) (q : Nat) (us : List Value) => k ≤ f.length) s.1 s.2.1 s.2.2.1 s.2.2.2) (fun s : Nat × (Option Addr) × Nat × (List Value) => (fun (k : Nat) (a : Option Addr) (q : Nat) (us : List Value) => f.length - k) s.1 s.2.1 s.2.2.1 s.2.2.2) (0, _, _, _) (sub_cons rfl (sub_cons rfl (sub_cons rfl (sub_cons rfl (sub_cons rfl (sub_cons rfl (sub_cons rfl (sub_cons rfl (sub_cons rfl (sub_cons rfl (sub_cons rfl (sub_cons rfl (sub_cons rfl (sub_cons rfl (sub_cons rfl (sub_cons rfl sub_nil)))))))))))))))) rfl (Nat.zero_le _) ?_
      rintro ⟨k, a, q, us⟩ hinv KL30 hKL30
      simp only [updL, List.foldl_cons, List.foldl_nil, List.set_cons_succ, List.set_cons_zero, List.cons_append, List.nil_append] at hinv hKL30 ⊢
      have hk := hinv
      refine gc_seq fun K31 hK31 => ?_
      refine gc_seq fun K32 hK32 => ?_
      refine gc_region ?_
      refine g_v (.free rfl) rfl rfl (qt_move rfl rfl) ?_
      refine g_v (.free rfl) rfl rfl (qt_move rfl rfl) ?_
      refine g_v (.free rfl) rfl rfl (qt_len rfl rfl ulE1 (fun w M => lenV_rd (two_rd1 (n := 0) M rfl))) ?_
      refine g_v (.free rfl) rfl rfl (qt_lss rfl rfl rfl) ?_
      refine g_nil ?_
      refine gk_then (hK32 _ _ ?_)
      refine gc_cond rfl (fun hc2 => ?_) (fun hc2 => ?_)
      · try simp only [decide_eq_true_eq, decide_eq_false_iff_not, Bool.not_eq_true', Bool.not_eq_false', Bool.not_eq_eq_eq_not, Bool.not_true, Bool.not_false, ne_eq, Decidable.not_not, Classical.not_not] at hc2
        refine gc_skip ?_
        refine gk_then (hK31 _ _ ?_)
        refine gc_seq fun K33 hK33 => ?_
        refine gc_block ?_
        refine gc_seq fun K34 hK34 => ?_
        refine gc_region ?_
        refine g_v (.free rfl) rfl rfl (qt_assign rfl rfl) ?_
        refine g_nil ?_
        refine gk_then (hK34 _ _ ?_)
        refine gc_block ?_
        try simp only [List.nil_append, List.cons_append, List.append_assoc, List.set_cons_succ, List.set_cons_zero]
        refine gc_loop ([(0, _), (3, _), (4, _), (5, _), (6, _), (7, _), (8, _), (9, _), (10, _), (11, _), (12, _), (14, _), (20, _), (69, _), (71, _), (79, _)] : Env) (fun s : Nat × (Option Addr) × Nat × (List Value) => (fun (l : Nat) (a : Option Addr) (q : Nat) (us : List Value) => ([(13, .slice a (prS f k l).length q), (15, .int .i64 (l : Int))] : Env)) s.1 s.2.1 s.2.2.1 s.2.2.2) (fun s : Nat × (Option Addr) × Nat × (List Value) => (fun (l : Nat) (a : Option Addr) (q : Nat) (us : List Value) => ([(5, own2U (.slice a (prS f k l).length q) us (prS f k l))] : List (Nat × Itm))) s.1 s.2.1 s.2.2.1 s.2.2.2) (fun s : Nat × (Option Addr) × Nat × (List Value) => (fun (l : Nat) (a : Option Addr) (q : Nat) (us : List Value) => l ≤ k) s.1 s.2.1 s.2.2.1 s.2.2.2) (fun s : Nat × (Option Addr) × Nat × (List Value) => (fun (l : Nat) (a : Option Addr) (q : Nat) (us : List Value) => k - l) s.1 s.2.1 s.2.2.1 s.2.2.2) (0, _, _, _) (sub_cons rfl (sub_cons rfl (sub_cons rfl (sub_cons rfl (sub_cons rfl (sub_cons rfl (sub_cons rfl (sub_cons rfl (sub_cons rfl (sub_cons rfl (sub_cons rfl (sub_cons rfl (sub_cons rfl (sub_cons rfl (sub_cons rfl (sub_cons rfl (sub_cons rfl (sub_cons rfl sub_nil)))))))))))))))))) rfl (Nat.zero_le _) ?_
        rintro ⟨l, a, q, us⟩ hinv KL35 hKL35
        simp only [updL, List.foldl_cons, List.foldl_nil, List.set_cons_succ, List.set_cons_zero, List.cons_append, List.nil_append] at hinv hKL35 ⊢
        have hl := hinv
        have hpl := prS_len f (x := k) (y := l) (by omega) (by omega)
        refine gc_seq fun K36 hK36 => ?_
        refine gc_seq fun K37 hK37 => ?_
        refine gc_region ?_
        refine g_v (.free rfl) rfl rfl (qt_move rfl rfl) ?_
        refine g_v (.free rfl) rfl rfl (qt_move rfl rfl) ?_
        refine g_v (.free rfl) rfl rfl (qt_lss rfl rfl rfl) ?_
        refine g_nil ?_
        refine gk_then (hK37 _ _ ?_)
        refine gc_cond rfl (fun hc3 => ?_) (fun hc3 => ?_)
        · try simp only [decide_eq_true_eq, decide_eq_false_iff_not, Bool.not_eq_true', Bool.not_eq_false', Bool.not_eq_eq_eq_not, Bool.not_true, Bool.not_false, ne_eq, Decidable.not_not, Classical.not_not] at hc3
          refine gc_skip ?_
          refine gk_then (hK36 _ _ ?_)
          refine gc_seq fun K38 hK38 => ?_
          refine gc_block ?_
          refine gc_seq fun K39 hK39 => ?_
          rcases (four (at0 f (k : Int) = at0 f (l : Int)) (at0 g (k : Int) = at0 g (l : Int))) with ⟨hP, hQ⟩ | ⟨hP, hQ⟩ | ⟨hP, hQ⟩ | ⟨hP, hQ⟩
          · skip
            have hM := (hK k l (by omega) (by omega)).2 ⟨hP, hQ⟩
            have hJJ := hJ k l (by omega) (by omega) (.inl hP)
            refine gc_draw (by kernel_rfl) ?_
            refine gd_v (.free rfl) rfl rfl (qt_move rfl rfl) ?_
            refine gd_v (.free rfl) rfl rfl (qt_move rfl rfl) ?_
            refine gd_v (.free rfl) rfl rfl (qt_index rfl rfl rfl ulE1 szE1 (fun w M => lenA_own1 (n := 3) rfl M) (by omega) (by omega)) ?_
            refine gd_v (.free rfl) rfl rfl (qt_load1 rfl rfl Try.underlying2 rfl (fun w M => (mem_own1 (n := 3) M rfl).rd) (by omega) (by omega)) ?_
            refine gd_v (.free rfl) rfl rfl (qt_move rfl rfl) ?_
            refine gd_v (.free rfl) rfl rfl (qt_move rfl rfl) ?_
            refine gd_v (.free rfl) rfl rfl (qt_index rfl rfl rfl ulE1 szE1 (fun w M => lenA_own1 (n := 3) rfl M) (by omega) (by omega)) ?_
            refine gd_v (.free rfl) rfl rfl (qt_load1 rfl rfl Try.underlying2 rfl (fun w M => (mem_own1 (n := 3) M rfl).rd) (by omega) (by omega)) ?_
            refine gd_v (.free rfl) rfl rfl (qt_eql_t rfl rfl rfl hM) ?_
            refine gd_v (.free rfl) rfl rfl (qt_assign rfl rfl) ?_
            refine gd_nil ?_
            refine gk_then (hK39 _ _ ?_)
            refine gc_seq fun K40 hK40 => ?_
            refine gc_seq fun K41 hK41 => ?_
            refine gc_draw (by kernel_rfl) ?_
            refine gd_v (.free rfl) rfl rfl (qt_move rfl rfl) ?_
            refine gd_v (.free rfl) rfl rfl (qt_move rfl rfl) ?_
            refine gd_v (.free rfl) rfl rfl (qt_move rfl rfl) ?_
            refine gd_v (.free rfl) rfl rfl (qt_index rfl rfl rfl ulE1 szE1 (fun w M => lenA_rd (two_rd1 (n := 0) M rfl)) (by omega) (by omega)) ?_
            refine gd_v (.free rfl) rfl rfl (qt_load1 rfl rfl Try.underlying2 rfl (fun w M => two_rd1 (n := 0) M rfl) (by omega) (by omega)) ?_
            refine gd_v (.free rfl) rfl rfl (qt_move rfl rfl) ?_
            refine gd_v (.free rfl) rfl rfl (qt_move rfl rfl) ?_
            refine gd_v (.free rfl) rfl rfl (qt_index rfl rfl rfl ulE1 szE1 (fun w M => lenA_rd (two_rd1 (n := 0) M rfl)) (by omega) (by omega)) ?_
            refine gd_v (.free rfl) rfl rfl (qt_load1 rfl rfl Try.underlying2 rfl (fun w M => two_rd1 (n := 0) M rfl) (by omega) (by omega)) ?_
            refine gd_v (.free rfl) rfl rfl (qt_eql_t rfl rfl rfl hP) ?_
            refine gd_v (.free rfl) rfl rfl (qt_move rfl rfl) ?_
            refine gd_v (.held _ _ _ rfl rfl rfl) rfl rfl (qt_move rfl rfl) ?_
            refine gd_v (.held _ _ _ rfl rfl rfl) rfl rfl (qt_move rfl rfl) ?_
            refine gd_v (.held _ _ _ rfl rfl rfl) rfl rfl (qt_index rfl rfl rfl ulE1 szE1 (fun w M => lenA_rd (two_rd2 (n := 0) M rfl)) (by omega) (by omega)) ?_
            refine gd_v (.held _ _ _ rfl rfl rfl) rfl rfl (qt_load1 rfl rfl Try.underlying2 rfl (fun w M => two_rd2 (n := 0) M rfl) (by omega) (by omega)) ?_
            refine gd_v (.held _ _ _ rfl rfl rfl) rfl rfl (qt_move rfl rfl) ?_
            refine gd_v (.held _ _ _ rfl rfl rfl) rfl rfl (qt_move rfl rfl) ?_
            refine gd_v (.held _ _ _ rfl rfl rfl) rfl rfl (qt_index rfl rfl rfl ulE1 szE1 (fun w M => lenA_rd (two_rd2 (n := 0) M rfl)) (by omega) (by omega)) ?_
            refine gd_v (.held _ _ _ rfl rfl rfl) rfl rfl (qt_load1 rfl rfl Try.underlying2 rfl (fun w M => two_rd2 (n := 0) M rfl) (by omega) (by omega)) ?_
            refine gd_v (.held _ _ _ rfl rfl rfl) rfl rfl (qt_eql_t rfl rfl rfl hQ) ?_
            refine gd_v (.free rfl) rfl rfl (qt_pick_t rfl rfl rfl) ?_
            refine gd_v (.free rfl) rfl rfl (qt_neB rfl rfl rfl Try.underlying4) ?_
            refine gd_v (.free rfl) rfl rfl (qt_move rfl rfl) ?_
            refine gd_v (.held _ _ _ rfl rfl rfl) rfl rfl (qt_move rfl rfl) ?_
            refine gd_v (.held _ _ _ rfl rfl rfl) rfl rfl (qt_move rfl rfl) ?_
            refine gd_v (.held _ _ _ rfl rfl rfl) rfl rfl (qt_index rfl rfl rfl ulE1 szE1 (fun w M => lenA_rd (two_rd1 (n := 0) M rfl)) (by omega) (by omega)) ?_
            refine gd_v (.held _ _ _ rfl rfl rfl) rfl rfl (qt_load1 rfl rfl Try.underlying2 rfl (fun w M => two_rd1 (n := 0) M rfl) (by omega) (by omega)) ?_
            refine gd_v (.held _ _ _ rfl rfl rfl) rfl rfl (qt_move rfl rfl) ?_
            refine gd_v (.held _ _ _ rfl rfl rfl) rfl rfl (qt_move rfl rfl) ?_
            refine gd_v (.held _ _ _ rfl rfl rfl) rfl rfl (qt_index rfl rfl rfl ulE1 szE1 (fun w M => lenA_rd (two_rd1 (n := 0) M rfl)) (by omega) (by omega)) ?_
            refine gd_v (.held _ _ _ rfl rfl rfl) rfl rfl (qt_load1 rfl rfl Try.underlying2 rfl (fun w M => two_rd1 (n := 0) M rfl) (by omega) (by omega)) ?_
            refine gd_v (.held _ _ _ rfl rfl rfl) rfl rfl (qt_eql_t rfl rfl rfl hP) ?_
            refine gd_v (.held _ _ _ rfl rfl rfl) rfl rfl (qt_move rfl rfl) ?_
            refine gd_skip (.not _ _ _ _ rfl rfl rfl rfl) rfl rfl ?_
            refine gd_skip (.not _ _ _ _ rfl rfl rfl rfl) rfl rfl ?_
            refine gd_skip (.not _ _ _ _ rfl rfl rfl rfl) rfl rfl ?_
            refine gd_skip (.not _ _ _ _ rfl rfl rfl rfl) rfl rfl ?_
            refine gd_skip (.not _ _ _ _ rfl rfl rfl rfl) rfl rfl ?_
            refine gd_skip (.not _ _ _ _ rfl rfl rfl rfl) rfl rfl ?_
            refine gd_skip (.not _ _ _ _ rfl rfl rfl rfl) rfl rfl ?_
            refine gd_skip (.not _ _ _ _ rfl rfl rfl rfl) rfl rfl ?_
            refine gd_skip (.not _ _ _ _ rfl rfl rfl rfl) rfl rfl ?_
            refine gd_v (.held _ _ _ rfl rfl rfl) rfl rfl (qt_pick_t rfl rfl rfl) ?_
            refine gd_v (.held _ _ _ rfl rfl rfl) rfl rfl (qt_move rfl rfl) ?_
            refine gd_v (.held _ _ _ rfl rfl rfl) rfl rfl (qt_move rfl rfl) ?_
            refine gd_v (.held _ _ _ rfl rfl rfl) rfl rfl (qt_move rfl rfl) ?_
            refine gd_v (.held _ _ _ rfl rfl rfl) rfl rfl (qt_index rfl rfl rfl ulE1 szE1 (fun w M => lenA_own1 (n := 4) rfl M) (by omega) (by omega)) ?_
            refine gd_v (.held _ _ _ rfl rfl rfl) rfl rfl (qt_load1 rfl rfl Try.underlying2 rfl (fun w M => (mem_own1 (n := 4) M rfl).rd) (by omega) (by omega)) ?_
            refine gd_v (.held _ _ _ rfl rfl rfl) rfl rfl (qt_move rfl rfl) ?_
            refine gd_v (.held _ _ _ rfl rfl rfl) rfl rfl (qt_move rfl rfl) ?_
            refine gd_v (.held _ _ _ rfl rfl rfl) rfl rfl (qt_index rfl rfl rfl ulE1 szE1 (fun w M => lenA_own1 (n := 4) rfl M) (by omega) (by omega)) ?_
            refine gd_v (.held _ _ _ rfl rfl rfl) rfl rfl (qt_load1 rfl rfl Try.underlying2 rfl (fun w M => (mem_own1 (n := 4) M rfl).rd) (by omega) (by omega)) ?_
            refine gd_v (.held _ _ _ rfl rfl rfl) rfl rfl (qt_neq_f rfl rfl rfl (fun h => h hJJ)) ?_
            refine gd_v (.held _ _ _ rfl rfl rfl) rfl rfl (qt_pick_t rfl rfl rfl) ?_
            refine gd_v (.free rfl) rfl rfl (qt_pick_f rfl rfl rfl) ?_
            refine gd_nil ?_
            refine gk_then (hK41 _ _ ?_)
            refine gc_cond_f rfl ?_
            refine gc_skip ?_
            refine gk_then (hK40 _ _ ?_)
            refine gc_seq fun K42 hK42 => ?_
            refine gc_draw (by kernel_rfl) ?_
            refine gd_v (.free rfl) rfl rfl (qt_move rfl rfl) ?_
            refine gd_v (.free rfl) rfl rfl (qt_move rfl rfl) ?_
            refine gd_v (.free rfl) rfl rfl (qt_index rfl rfl rfl ulE1 szE1 (fun w M => lenA_rd (two_rd1 (n := 0) M rfl)) (by omega) (by omega)) ?_
            refine gd_v (.free rfl) rfl rfl (qt_load1 rfl rfl Try.underlying2 rfl (fun w M => two_rd1 (n := 0) M rfl) (by omega) (by omega)) ?_
            refine gd_v (.free rfl) rfl rfl (qt_move rfl rfl) ?_
            refine gd_v (.free rfl) rfl rfl (qt_move rfl rfl) ?_
            refine gd_v (.free rfl) rfl rfl (qt_index rfl rfl rfl ulE1 szE1 (fun w M => lenA_rd (two_rd1 (n := 0) M rfl)) (by omega) (by omega)) ?_
            refine gd_v (.free rfl) rfl rfl (qt_load1 rfl rfl Try.underlying2 rfl (fun w M => two_rd1 (n := 0) M rfl) (by omega) (by omega)) ?_
            refine gd_v (.free rfl) rfl rfl (qt_eql_t rfl rfl rfl hP) ?_
            refine gd_nil ?_
            refine gk_then (hK42 _ _ ?_)
            refine gc_cond_t rfl ?_
            refine gc_region ?_
            refine g_v (.free rfl) rfl rfl (qt_move rfl rfl) ?_
            refine g_v (.free rfl) rfl rfl (qt_move rfl rfl) ?_
            refine g_v (.free rfl) rfl rfl (qt_move rfl rfl) ?_
            refine g_op (.free rfl) fun K44 hK44 => ?_
            refine go_slice2 rfl rfl rfl rfl rfl Try.underlying22 ?_
            intro B43
            refine hK44 _ _ ?_
            refine g_op (.free rfl) fun K46 hK46 => ?_
            refine go_sliceR1 (m := 6) rfl rfl rfl rfl Try.underlying23 rfl ?_
            intro B45
            refine hK46 _ _ ?_
            refine g_op (.free rfl) fun K48 hK48 => ?_
            refine go_appendRow (n := 5) (m := 6) (m' := 5) rfl rfl rfl Try.underlying23 rfl rfl rfl rfl rfl (by omega) ?_
            intro va47 vc47
            refine hK48 _ _ ?_
            refine g_v (.free rfl) rfl rfl (qt_assign rfl rfl) ?_
            refine g_nil ?_
            refine gk_block ?_
            refine gk_then (hK38 _ _ ?_)
            refine gc_region ?_
            refine g_v (.free rfl) rfl rfl (qt_move rfl rfl) ?_
            refine g_v (.free rfl) rfl rfl (qt_add rfl rfl rfl (by omega)) ?_
            refine g_v (.free rfl) rfl rfl (qt_assign rfl rfl) ?_
            refine g_nil ?_
            first | simp only [prS_t hP] | rw [prS_f hP]
            refine gk_then (gk_take 6 ?_)
            refine gk_sub ?hs_49 (hKL35 (l + 1, _, _, _) ?hi_49 ?hm_49)
            case hs_49 => exact (sub_cons rfl (sub_cons rfl (sub_cons rfl (sub_cons rfl (sub_cons rfl (sub_cons rfl (sub_cons rfl (sub_cons rfl (sub_cons rfl (sub_cons rfl (sub_cons rfl (sub_cons rfl (sub_cons rfl (sub_cons rfl (sub_cons rfl (sub_cons rfl (sub_cons rfl (sub_cons rfl sub_nil))))))))))))))))))
            case hi_49 => omega
            case hm_49 => omega
          · skip
            have hM := fun h => hQ ((hK k l (by omega) (by omega)).1 h).2
            have hJJ := hJ k l (by omega) (by omega) (.inl hP)
            refine gc_draw (by kernel_rfl) ?_
            refine gd_v (.free rfl) rfl rfl (qt_move rfl rfl) ?_
            refine gd_v (.free rfl) rfl rfl (qt_move rfl rfl) ?_
            refine gd_v (.free rfl) rfl rfl (qt_index rfl rfl rfl ulE1 szE1 (fun w M => lenA_own1 (n := 3) rfl M) (by omega) (by omega)) ?_
            refine gd_v (.free rfl) rfl rfl (qt_load1 rfl rfl Try.underlying2 rfl (fun w M => (mem_own1 (n := 3) M rfl).rd) (by omega) (by omega)) ?_
            refine gd_v (.free rfl) rfl rfl (qt_move rfl rfl) ?_
            refine gd_v (.free rfl) rfl rfl (qt_move rfl rfl) ?_
            refine gd_v (.free rfl) rfl rfl (qt_index rfl rfl rfl ulE1 szE1 (fun w M => lenA_own1 (n := 3) rfl M) (by omega) (by omega)) ?_
            refine gd_v (.free rfl) rfl rfl (qt_load1 rfl rfl Try.underlying2 rfl (fun w M => (mem_own1 (n := 3) M rfl).rd) (by omega) (by omega)) ?_
            refine gd_v (.free rfl) rfl rfl (qt_eql_f rfl rfl rfl hM) ?_
            refine gd_v (.free rfl) rfl rfl (qt_assign rfl rfl) ?_
            refine gd_nil ?_
            refine gk_then (hK39 _ _ ?_)
            refine gc_seq fun K50 hK50 => ?_
            refine gc_seq fun K51 hK51 => ?_
            refine gc_draw (by kernel_rfl) ?_
            refine gd_v (.free rfl) rfl rfl (qt_move rfl rfl) ?_
            refine gd_v (.free rfl) rfl rfl (qt_move rfl rfl) ?_
            refine gd_v (.free rfl) rfl rfl (qt_move rfl rfl) ?_
            refine gd_v (.free rfl) rfl rfl (qt_index rfl rfl rfl ulE1 szE1 (fun w M => lenA_rd (two_rd1 (n := 0) M rfl)) (by omega) (by omega)) ?_
            refine gd_v (.free rfl) rfl rfl (qt_load1 rfl rfl Try.underlying2 rfl (fun w M => two_rd1 (n := 0) M rfl) (by omega) (by omega)) ?_
            refine gd_v (.free rfl) rfl rfl (qt_move rfl rfl) ?_
            refine gd_v (.free rfl) rfl rfl (qt_move rfl rfl) ?_
            refine gd_v (.free rfl) rfl rfl (qt_index rfl rfl rfl ulE1 szE1 (fun w M => lenA_rd (two_rd1 (n := 0) M rfl)) (by omega) (by omega)) ?_
            refine gd_v (.free rfl) rfl rfl (qt_load1 rfl rfl Try.underlying2 rfl (fun w M => two_rd1 (n := 0) M rfl) (by omega) (by omega)) ?_
            refine gd_v (.free rfl) rfl rfl (qt_eql_t rfl rfl rfl hP) ?_
            refine gd_v (.free rfl) rfl rfl (qt_move rfl rfl) ?_
            refine gd_v (.held _ _ _ rfl rfl rfl) rfl rfl (qt_move rfl rfl) ?_
            refine gd_v (.held _ _ _ rfl rfl rfl) rfl rfl (qt_move rfl rfl) ?_
            refine gd_v (.held _ _ _ rfl rfl rfl) rfl rfl (qt_index rfl rfl rfl ulE1 szE1 (fun w M => lenA_rd (two_rd2 (n := 0) M rfl)) (by omega) (by omega)) ?_
            refine gd_v (.held _ _ _ rfl rfl rfl) rfl rfl (qt_load1 rfl rfl Try.underlying2 rfl (fun w M => two_rd2 (n := 0) M rfl) (by omega) (by omega)) ?_
            refine gd_v (.held _ _ _ rfl rfl rfl) rfl rfl (qt_move rfl rfl) ?_
            refine gd_v (.held _ _ _ rfl rfl rfl) rfl rfl (qt_move rfl rfl) ?_
            refine gd_v (.held _ _ _ rfl rfl rfl) rfl rfl (qt_index rfl rfl rfl ulE1 szE1 (fun w M => lenA_rd (two_rd2 (n := 0) M rfl)) (by omega) (by omega)) ?_
            refine gd_v (.held _ _ _ rfl rfl rfl) rfl rfl (qt_load1 rfl rfl Try.underlying2 rfl (fun w M => two_rd2 (n := 0) M rfl) (by omega) (by omega)) ?_
            refine gd_v (.held _ _ _ rfl rfl rfl) rfl rfl (qt_eql_f rfl rfl rfl hQ) ?_
            refine gd_v (.free rfl) rfl rfl (qt_pick_t rfl rfl rfl) ?_
            refine gd_v (.free rfl) rfl rfl (qt_neB rfl rfl rfl Try.underlying4) ?_
            refine gd_v (.free rfl) rfl rfl (qt_move rfl rfl) ?_
            refine gd_v (.held _ _ _ rfl rfl rfl) rfl rfl (qt_move rfl rfl) ?_
            refine gd_v (.held _ _ _ rfl rfl rfl) rfl rfl (qt_move rfl rfl) ?_
            refine gd_v (.held _ _ _ rfl rfl rfl) rfl rfl (qt_index rfl rfl rfl ulE1 szE1 (fun w M => lenA_rd (two_rd1 (n := 0) M rfl)) (by omega) (by omega)) ?_
            refine gd_v (.held _ _ _ rfl rfl rfl) rfl rfl (qt_load1 rfl rfl Try.underlying2 rfl (fun w M => two_rd1 (n := 0) M rfl) (by omega) (by omega)) ?_
            refine gd_v (.held _ _ _ rfl rfl rfl) rfl rfl (qt_move rfl rfl) ?_
            refine gd_v (.held _ _ _ rfl rfl rfl) rfl rfl (qt_move rfl rfl) ?_
            refine gd_v (.held _ _ _ rfl rfl rfl) rfl rfl (qt_index rfl rfl rfl ulE1 szE1 (fun w M => lenA_rd (two_rd1 (n := 0) M rfl)) (by omega) (by omega)) ?_
            refine gd_v (.held _ _ _ rfl rfl rfl) rfl rfl (qt_load1 rfl rfl Try.underlying2 rfl (fun w M => two_rd1 (n := 0) M rfl) (by omega) (by omega)) ?_
            refine gd_v (.held _ _ _ rfl rfl rfl) rfl rfl (qt_eql_t rfl rfl rfl hP) ?_
            refine gd_v (.held _ _ _ rfl rfl rfl) rfl rfl (qt_move rfl rfl) ?_
            refine gd_skip (.not _ _ _ _ rfl rfl rfl rfl) rfl rfl ?_
            refine gd_skip (.not _ _ _ _ rfl rfl rfl rfl) rfl rfl ?_
            refine gd_skip (.not _ _ _ _ rfl rfl rfl rfl) rfl rfl ?_
            refine gd_skip (.not _ _ _ _ rfl rfl rfl rfl) rfl rfl ?_
            refine gd_skip (.not _ _ _ _ rfl rfl rfl rfl) rfl rfl ?_
            refine gd_skip (.not _ _ _ _ rfl rfl rfl rfl) rfl rfl ?_
            refine gd_skip (.not _ _ _ _ rfl rfl rfl rfl) rfl rfl ?_
            refine gd_skip (.not _ _ _ _ rfl rfl rfl rfl) rfl rfl ?_
            refine gd_skip (.not _ _ _ _ rfl rfl rfl rfl) rfl rfl ?_
            refine gd_v (.held _ _ _ rfl rfl rfl) rfl rfl (qt_pick_t rfl rfl rfl) ?_
            refine gd_v (.held _ _ _ rfl rfl rfl) rfl rfl (qt_move rfl rfl) ?_
            refine gd_v (.held _ _ _ rfl rfl rfl) rfl rfl (qt_move rfl rfl) ?_
            refine gd_v (.held _ _ _ rfl rfl rfl) rfl rfl (qt_move rfl rfl) ?_
            refine gd_v (.held _ _ _ rfl rfl rfl) rfl rfl (qt_index rfl rfl rfl ulE1 szE1 (fun w M => lenA_own1 (n := 4) rfl M) (by omega) (by omega)) ?_
            refine gd_v (.held _ _ _ rfl rfl rfl) rfl rfl (qt_load1 rfl rfl Try.underlying2 rfl (fun w M => (mem_own1 (n := 4) M rfl).rd) (by omega) (by omega)) ?_
            refine gd_v (.held _ _ _ rfl rfl rfl) rfl rfl (qt_move rfl rfl) ?_
            refine gd_v (.held _ _ _ rfl rfl rfl) rfl rfl (qt_move rfl rfl) ?_
            refine gd_v (.held _ _ _ rfl rfl rfl) rfl rfl (qt_index rfl rfl rfl ulE1 szE1 (fun w M => lenA_own1 (n := 4) rfl M) (by omega) (by omega)) ?_
            refine gd_v (.held _ _ _ rfl rfl rfl) rfl rfl (qt_load1 rfl rfl Try.underlying2 rfl (fun w M => (mem_own1 (n := 4) M rfl).rd) (by omega) (by omega)) ?_
            refine gd_v (.held _ _ _ rfl rfl rfl) rfl rfl (qt_neq_f rfl rfl rfl (fun h => h hJJ)) ?_
            refine gd_v (.held _ _ _ rfl rfl rfl) rfl rfl (qt_pick_t rfl rfl rfl) ?_
            refine gd_v (.free rfl) rfl rfl (qt_pick_f rfl rfl rfl) ?_
            refine gd_nil ?_
            refine gk_then (hK51 _ _ ?_)
            refine gc_cond_f rfl ?_
            refine gc_skip ?_
            refine gk_then (hK50 _ _ ?_)
            refine gc_seq fun K52 hK52 => ?_
            refine gc_draw (by kernel_rfl) ?_
            refine gd_v (.free rfl) rfl rfl (qt_move rfl rfl) ?_
            refine gd_v (.free rfl) rfl rfl (qt_move rfl rfl) ?_
            refine gd_v (.free rfl) rfl rfl (qt_index rfl rfl rfl ulE1 szE1 (fun w M => lenA_rd (two_rd1 (n := 0) M rfl)) (by omega) (by omega)) ?_
            refine gd_v (.free rfl) rfl rfl (qt_load1 rfl rfl Try.underlying2 rfl (fun w M => two_rd1 (n := 0) M rfl) (by omega) (by omega)) ?_
            refine gd_v (.free rfl) rfl rfl (qt_move rfl rfl) ?_
            refine gd_v (.free rfl) rfl rfl (qt_move rfl rfl) ?_
            refine gd_v (.free rfl) rfl rfl (qt_index rfl rfl rfl ulE1 szE1 (fun w M => lenA_rd (two_rd1 (n := 0) M rfl)) (by omega) (by omega)) ?_
            refine gd_v (.free rfl) rfl rfl (qt_load1 rfl rfl Try.underlying2 rfl (fun w M => two_rd1 (n := 0) M rfl) (by omega) (by omega)) ?_
            refine gd_v (.free rfl) rfl rfl (qt_eql_t rfl rfl rfl hP) ?_
            refine gd_nil ?_
            refine gk_then (hK52 _ _ ?_)
            refine gc_cond_t rfl ?_
            refine gc_region ?_
            refine g_v (.free rfl) rfl rfl (qt_move rfl rfl) ?_
            refine g_v (.free rfl) rfl rfl (qt_move rfl rfl) ?_
            refine g_v (.free rfl) rfl rfl (qt_move rfl rfl) ?_
            refine g_op (.free rfl) fun K54 hK54 => ?_
            refine go_slice2 rfl rfl rfl rfl rfl Try.underlying22 ?_
            intro B53
            refine hK54 _ _ ?_
            refine g_op (.free rfl) fun K56 hK56 => ?_
            refine go_sliceR1 (m := 6) rfl rfl rfl rfl Try.underlying23 rfl ?_
            intro B55
            refine hK56 _ _ ?_
            refine g_op (.free rfl) fun K58 hK58 => ?_
            refine go_appendRow (n := 5) (m := 6) (m' := 5) rfl rfl rfl Try.underlying23 rfl rfl rfl rfl rfl (by omega) ?_
            intro va57 vc57
            refine hK58 _ _ ?_
            refine g_v (.free rfl) rfl rfl (qt_assign rfl rfl) ?_
            refine g_nil ?_
            refine gk_block ?_
            refine gk_then (hK38 _ _ ?_)
            refine gc_region ?_
            refine g_v (.free rfl) rfl rfl (qt_move rfl rfl) ?_
            refine g_v (.free rfl) rfl rfl (qt_add rfl rfl rfl (by omega)) ?_
            refine g_v (.free rfl) rfl rfl (qt_assign rfl rfl) ?_
            refine g_nil ?_
            first | simp only [prS_t hP] | rw [prS_f hP]
            refine gk_then (gk_take 6 ?_)
            refine gk_sub ?hs_59 (hKL35 (l + 1, _, _, _) ?hi_59 ?hm_59)
            case hs_59 => exact (sub_cons rfl (sub_cons rfl (sub_cons rfl (sub_cons rfl (sub_cons rfl (sub_cons rfl (sub_cons rfl (sub_cons rfl (sub_cons rfl (sub_cons rfl (sub_cons rfl (sub_cons rfl (sub_cons rfl (sub_cons rfl (sub_cons rfl (sub_cons rfl (sub_cons rfl (sub_cons rfl sub_nil))))))))))))))))))
            case hi_59 => omega
            case hm_59 => omega
          · skip
            have hM := fun h => hP ((hK k l (by omega) (by omega)).1 h).1
            have hJJ := hJ k l (by omega) (by omega) (.inr hQ)
            refine gc_draw (by kernel_rfl) ?_
            refine gd_v (.free rfl) rfl rfl (qt_move rfl rfl) ?_
            refine gd_v (.free rfl) rfl rfl (qt_move rfl rfl) ?_
            refine gd_v (.free rfl) rfl rfl (qt_index rfl rfl rfl ulE1 szE1 (fun w M => lenA_own1 (n := 3) rfl M) (by omega) (by omega)) ?_
            refine gd_v (.free rfl) rfl rfl (qt_load1 rfl rfl Try.underlying2 rfl (fun w M => (mem_own1 (n := 3) M rfl).rd) (by omega) (by omega)) ?_
            refine gd_v (.free rfl) rfl rfl (qt_move rfl rfl) ?_
            refine gd_v (.free rfl) rfl rfl (qt_move rfl rfl) ?_
            refine gd_v (.free rfl) rfl rfl (qt_index rfl rfl rfl ulE1 szE1 (fun w M => lenA_own1 (n := 3) rfl M) (by omega) (by omega)) ?_
            refine gd_v (.free rfl) rfl rfl (qt_load1 rfl rfl Try.underlying2 rfl (fun w M => (mem_own1 (n := 3) M rfl).rd) (by omega) (by omega)) ?_
            refine gd_v (.free rfl) rfl rfl (qt_eql_f rfl rfl rfl hM) ?_
            refine gd_v (.free rfl) rfl rfl (qt_assign rfl rfl) ?_
            refine gd_nil ?_
            refine gk_then (hK39 _ _ ?_)
            refine gc_seq fun K60 hK60 => ?_
            refine gc_seq fun K61 hK61 => ?_
            refine gc_draw (by kernel_rfl) ?_
            refine gd_v (.free rfl) rfl rfl (qt_move rfl rfl) ?_
            refine gd_v (.free rfl) rfl rfl (qt_move rfl rfl) ?_
            refine gd_v (.free rfl) rfl rfl (qt_move rfl rfl) ?_
            refine gd_v (.free rfl) rfl rfl (qt_index rfl rfl rfl ulE1 szE1 (fun w M => lenA_rd (two_rd1 (n := 0) M rfl)) (by omega) (by omega)) ?_
            refine gd_v (.free rfl) rfl rfl (qt_load1 rfl rfl Try.underlying2 rfl (fun w M => two_rd1 (n := 0) M rfl) (by omega) (by omega)) ?_
            refine gd_v (.free rfl) rfl rfl (qt_move rfl rfl) ?_
            refine gd_v (.free rfl) rfl rfl (qt_move rfl rfl) ?_
            refine gd_v (.free rfl) rfl rfl (qt_index rfl rfl rfl ulE1 szE1 (fun w M => lenA_rd (two_rd1 (n := 0) M rfl)) (by omega) (by omega)) ?_
            refine gd_v (.free rfl) rfl rfl (qt_load1 rfl rfl Try.underlying2 rfl (fun w M => two_rd1 (n := 0) M rfl) (by omega) (by omega)) ?_
            refine gd_v (.free rfl) rfl rfl (qt_eql_f rfl rfl rfl hP) ?_
            refine gd_v (.free rfl) rfl rfl (qt_move rfl rfl) ?_
            refine gd_skip (.not _ _ _ _ rfl rfl rfl rfl) rfl rfl ?_
            refine gd_skip (.not _ _ _ _ rfl rfl rfl rfl) rfl rfl ?_
            refine gd_skip (.not _ _ _ _ rfl rfl rfl rfl) rfl rfl ?_
            refine gd_skip (.not _ _ _ _ rfl rfl rfl rfl) rfl rfl ?_
            refine gd_skip (.not _ _ _ _ rfl rfl rfl rfl) rfl rfl ?_
            refine gd_skip (.not _ _ _ _ rfl rfl rfl rfl) rfl rfl ?_
            refine gd_skip (.not _ _ _ _ rfl rfl rfl rfl) rfl rfl ?_
            refine gd_skip (.not _ _ _ _ rfl rfl rfl rfl) rfl rfl ?_
            refine gd_skip (.not _ _ _ _ rfl rfl rfl rfl) rfl rfl ?_
            refine gd_v (.free rfl) rfl rfl (qt_pick_f rfl rfl rfl) ?_
            refine gd_v (.free rfl) rfl rfl (qt_neB rfl rfl rfl Try.underlying4) ?_
            refine gd_v (.free rfl) rfl rfl (qt_move rfl rfl) ?_
            refine gd_v (.held _ _ _ rfl rfl rfl) rfl rfl (qt_move rfl rfl) ?_
            refine gd_v (.held _ _ _ rfl rfl rfl) rfl rfl (qt_move rfl rfl) ?_
            refine gd_v (.held _ _ _ rfl rfl rfl) rfl rfl (qt_index rfl rfl rfl ulE1 szE1 (fun w M => lenA_rd (two_rd1 (n := 0) M rfl)) (by omega) (by omega)) ?_
            refine gd_v (.held _ _ _ rfl rfl rfl) rfl rfl (qt_load1 rfl rfl Try.underlying2 rfl (fun w M => two_rd1 (n := 0) M rfl) (by omega) (by omega)) ?_
            refine gd_v (.held _ _ _ rfl rfl rfl) rfl rfl (qt_move rfl rfl) ?_
            refine gd_v (.held _ _ _ rfl rfl rfl) rfl rfl (qt_move rfl rfl) ?_
            refine gd_v (.held _ _ _ rfl rfl rfl) rfl rfl (qt_index rfl rfl rfl ulE1 szE1 (fun w M => lenA_rd (two_rd1 (n := 0) M rfl)) (by omega) (by omega)) ?_
            refine gd_v (.held _ _ _ rfl rfl rfl) rfl rfl (qt_load1 rfl rfl Try.underlying2 rfl (fun w M => two_rd1 (n := 0) M rfl) (by omega) (by omega)) ?_
            refine gd_v (.held _ _ _ rfl rfl rfl) rfl rfl (qt_eql_f rfl rfl rfl hP) ?_
            refine gd_v (.held _ _ _ rfl rfl rfl) rfl rfl (qt_move rfl rfl) ?_
            refine gd_v (.held _ _ _ rfl rfl rfl) rfl rfl (qt_move rfl rfl) ?_
            refine gd_v (.held _ _ _ rfl rfl rfl) rfl rfl (qt_move rfl rfl) ?_
            refine gd_v (.held _ _ _ rfl rfl rfl) rfl rfl (qt_index rfl rfl rfl ulE1 szE1 (fun w M => lenA_rd (two_rd2 (n := 0) M rfl)) (by omega) (by omega)) ?_
            refine gd_v (.held _ _ _ rfl rfl rfl) rfl rfl (qt_load1 rfl rfl Try.underlying2 rfl (fun w M => two_rd2 (n := 0) M rfl) (by omega) (by omega)) ?_
            refine gd_v (.held _ _ _ rfl rfl rfl) rfl rfl (qt_move rfl rfl) ?_
            refine gd_v (.held _ _ _ rfl rfl rfl) rfl rfl (qt_move rfl rfl) ?_
            refine gd_v (.held _ _ _ rfl rfl rfl) rfl rfl (qt_index rfl rfl rfl ulE1 szE1 (fun w M => lenA_rd (two_rd2 (n := 0) M rfl)) (by omega) (by omega)) ?_
            refine gd_v (.held _ _ _ rfl rfl rfl) rfl rfl (qt_load1 rfl rfl Try.underlying2 rfl (fun w M => two_rd2 (n := 0) M rfl) (by omega) (by omega)) ?_
            refine gd_v (.held _ _ _ rfl rfl rfl) rfl rfl (qt_eql_t rfl rfl rfl hQ) ?_
            refine gd_v (.held _ _ _ rfl rfl rfl) rfl rfl (qt_pick_f rfl rfl rfl) ?_
            refine gd_v (.held _ _ _ rfl rfl rfl) rfl rfl (qt_move rfl rfl) ?_
            refine gd_v (.held _ _ _ rfl rfl rfl) rfl rfl (qt_move rfl rfl) ?_
            refine gd_v (.held _ _ _ rfl rfl rfl) rfl rfl (qt_move rfl rfl) ?_
            refine gd_v (.held _ _ _ rfl rfl rfl) rfl rfl (qt_index rfl rfl rfl ulE1 szE1 (fun w M => lenA_own1 (n := 4) rfl M) (by omega) (by omega)) ?_
            refine gd_v (.held _ _ _ rfl rfl rfl) rfl rfl (qt_load1 rfl rfl Try.underlying2 rfl (fun w M => (mem_own1 (n := 4) M rfl).rd) (by omega) (by omega)) ?_
            refine gd_v (.held _ _ _ rfl rfl rfl) rfl rfl (qt_move rfl rfl) ?_
            refine gd_v (.held _ _ _ rfl rfl rfl) rfl rfl (qt_move rfl rfl) ?_
            refine gd_v (.held _ _ _ rfl rfl rfl) rfl rfl (qt_index rfl rfl rfl ulE1 szE1 (fun w M => lenA_own1 (n := 4) rfl M) (by omega) (by omega)) ?_
            refine gd_v (.held _ _ _ rfl rfl rfl) rfl rfl (qt_load1 rfl rfl Try.underlying2 rfl (fun w M => (mem_own1 (n := 4) M rfl).rd) (by omega) (by omega)) ?_
            refine gd_v (.held _ _ _ rfl rfl rfl) rfl rfl (qt_neq_f rfl rfl rfl (fun h => h hJJ)) ?_
            refine gd_v (.held _ _ _ rfl rfl rfl) rfl rfl (qt_pick_t rfl rfl rfl) ?_
            refine gd_v (.free rfl) rfl rfl (qt_pick_f rfl rfl rfl) ?_
            refine gd_nil ?_
            refine gk_then (hK61 _ _ ?_)
            refine gc_cond_f rfl ?_
            refine gc_skip ?_
            refine gk_then (hK60 _ _ ?_)
            refine gc_seq fun K62 hK62 => ?_
            refine gc_draw (by kernel_rfl) ?_
            refine gd_v (.free rfl) rfl rfl (qt_move rfl rfl) ?_
            refine gd_v (.free rfl) rfl rfl (qt_move rfl rfl) ?_
            refine gd_v (.free rfl) rfl rfl (qt_index rfl rfl rfl ulE1 szE1 (fun w M => lenA_rd (two_rd1 (n := 0) M rfl)) (by omega) (by omega)) ?_
            refine gd_v (.free rfl) rfl rfl (qt_load1 rfl rfl Try.underlying2 rfl (fun w M => two_rd1 (n := 0) M rfl) (by omega) (by omega)) ?_
            refine gd_v (.free rfl) rfl rfl (qt_move rfl rfl) ?_
            refine gd_v (.free rfl) rfl rfl (qt_move rfl rfl) ?_
            refine gd_v (.free rfl) rfl rfl (qt_index rfl rfl rfl ulE1 szE1 (fun w M => lenA_rd (two_rd1 (n := 0) M rfl)) (by omega) (by omega)) ?_
            refine gd_v (.free rfl) rfl rfl (qt_load1 rfl rfl Try.underlying2 rfl (fun w M => two_rd1 (n := 0) M rfl) (by omega) (by omega)) ?_
            refine gd_v (.free rfl) rfl rfl (qt_eql_f rfl rfl rfl hP) ?_
            refine gd_nil ?_
            refine gk_then (hK62 _ _ ?_)
            refine gc_cond_f rfl ?_
            refine gc_skip ?_
            refine gk_block ?_
            refine gk_then (hK38 _ _ ?_)
            refine gc_region ?_
            refine g_v (.free rfl) rfl rfl (qt_move rfl rfl) ?_
            refine g_v (.free rfl) rfl rfl (qt_add rfl rfl rfl (by omega)) ?_
            refine g_v (.free rfl) rfl rfl (qt_assign rfl rfl) ?_
            refine g_nil ?_
            first | simp only [prS_t hP] | rw [prS_f hP]
            refine gk_then (gk_take 6 ?_)
            refine gk_sub ?hs_63 (hKL35 (l + 1, _, _, _) ?hi_63 ?hm_63)
            case hs_63 => exact (sub_cons rfl (sub_cons rfl (sub_cons rfl (sub_cons rfl (sub_cons rfl (sub_cons rfl (sub_cons rfl (sub_cons rfl (sub_cons rfl (sub_cons rfl (sub_cons rfl (sub_cons rfl (sub_cons rfl (sub_cons rfl (sub_cons rfl (sub_cons rfl (sub_cons rfl (sub_cons rfl sub_nil))))))))))))))))))
            case hi_63 => omega
            case hm_63 => omega
          · skip
            have hM := fun h => hP ((hK k l (by omega) (by omega)).1 h).1
            refine gc_draw (by kernel_rfl) ?_
            refine gd_v (.free rfl) rfl rfl (qt_move rfl rfl) ?_
            refine gd_v (.free rfl) rfl rfl (qt_move rfl rfl) ?_
            refine gd_v (.free rfl) rfl rfl (qt_index rfl rfl rfl ulE1 szE1 (fun w M => lenA_own1 (n := 3) rfl M) (by omega) (by omega)) ?_
            refine gd_v (.free rfl) rfl rfl (qt_load1 rfl rfl Try.underlying2 rfl (fun w M => (mem_own1 (n := 3) M rfl).rd) (by omega) (by omega)) ?_
            refine gd_v (.free rfl) rfl rfl (qt_move rfl rfl) ?_
            refine gd_v (.free rfl) rfl rfl (qt_move rfl rfl) ?_
            refine gd_v (.free rfl) rfl rfl (qt_index rfl rfl rfl ulE1 szE1 (fun w M => lenA_own1 (n := 3) rfl M) (by omega) (by omega)) ?_
            refine gd_v (.free rfl) rfl rfl (qt_load1 rfl rfl Try.underlying2 rfl (fun w M => (mem_own1 (n := 3) M rfl).rd) (by omega) (by omega)) ?_
            refine gd_v (.free rfl) rfl rfl (qt_eql_f rfl rfl rfl hM) ?_
            refine gd_v (.free rfl) rfl rfl (qt_assign rfl rfl) ?_
            refine gd_nil ?_
            refine gk_then (hK39 _ _ ?_)
            refine gc_seq fun K64 hK64 => ?_
            refine gc_seq fun K65 hK65 => ?_
            refine gc_draw (by kernel_rfl) ?_
            refine gd_v (.free rfl) rfl rfl (qt_move rfl rfl) ?_
            refine gd_v (.free rfl) rfl rfl (qt_move rfl rfl) ?_
            refine gd_v (.free rfl) rfl rfl (qt_move rfl rfl) ?_
            refine gd_v (.free rfl) rfl rfl (qt_index rfl rfl rfl ulE1 szE1 (fun w M => lenA_rd (two_rd1 (n := 0) M rfl)) (by omega) (by omega)) ?_
            refine gd_v (.free rfl) rfl rfl (qt_load1 rfl rfl Try.underlying2 rfl (fun w M => two_rd1 (n := 0) M rfl) (by omega) (by omega)) ?_
            refine gd_v (.free rfl) rfl rfl (qt_move rfl rfl) ?_
            refine gd_v (.free rfl) rfl rfl (qt_move rfl rfl) ?_
            refine gd_v (.free rfl) rfl rfl (qt_index rfl rfl rfl ulE1 szE1 (fun w M => lenA_rd (two_rd1 (n := 0) M rfl)) (by omega) (by omega)) ?_
            refine gd_v (.free rfl) rfl rfl (qt_load1 rfl rfl Try.underlying2 rfl (fun w M => two_rd1 (n := 0) M rfl) (by omega) (by omega)) ?_
            refine gd_v (.free rfl) rfl rfl (qt_eql_f rfl rfl rfl hP) ?_
            refine gd_v (.free rfl) rfl rfl (qt_move rfl rfl) ?_
            refine gd_skip (.not _ _ _ _ rfl rfl rfl rfl) rfl rfl ?_
            refine gd_skip (.not _ _ _ _ rfl rfl rfl rfl) rfl rfl ?_
            refine gd_skip (.not _ _ _ _ rfl rfl rfl rfl) rfl rfl ?_
            refine gd_skip (.not _ _ _ _ rfl rfl rfl rfl) rfl rfl ?_
            refine gd_skip (.not _ _ _ _ rfl rfl rfl rfl) rfl rfl ?_
            refine gd_skip (.not _ _ _ _ rfl rfl rfl rfl) rfl rfl ?_
            refine gd_skip (.not _ _ _ _ rfl rfl rfl rfl) rfl rfl ?_
            refine gd_skip (.not _ _ _ _ rfl rfl rfl rfl) rfl rfl ?_
            refine gd_skip (.not _ _ _ _ rfl rfl rfl rfl) rfl rfl ?_
            refine gd_v (.free rfl) rfl rfl (qt_pick_f rfl rfl rfl) ?_
            refine gd_v (.free rfl) rfl rfl (qt_neB rfl rfl rfl Try.underlying4) ?_
            refine gd_v (.free rfl) rfl rfl (qt_move rfl rfl) ?_
            refine gd_v (.held _ _ _ rfl rfl rfl) rfl rfl (qt_move rfl rfl) ?_
            refine gd_v (.held _ _ _ rfl rfl rfl) rfl rfl (qt_move rfl rfl) ?_
            refine gd_v (.held _ _ _ rfl rfl rfl) rfl rfl (qt_index rfl rfl rfl ulE1 szE1 (fun w M => lenA_rd (two_rd1 (n := 0) M rfl)) (by omega) (by omega)) ?_
            refine gd_v (.held _ _ _ rfl rfl rfl) rfl rfl (qt_load1 rfl rfl Try.underlying2 rfl (fun w M => two_rd1 (n := 0) M rfl) (by omega) (by omega)) ?_
            refine gd_v (.held _ _ _ rfl rfl rfl) rfl rfl (qt_move rfl rfl) ?_
            refine gd_v (.held _ _ _ rfl rfl rfl) rfl rfl (qt_move rfl rfl) ?_
            refine gd_v (.held _ _ _ rfl rfl rfl) rfl rfl (qt_index rfl rfl rfl ulE1 szE1 (fun w M => lenA_rd (two_rd1 (n := 0) M rfl)) (by omega) (by omega)) ?_
            refine gd_v (.held _ _ _ rfl rfl rfl) rfl rfl (qt_load1 rfl rfl Try.underlying2 rfl (fun w M => two_rd1 (n := 0) M rfl) (by omega) (by omega)) ?_
            refine gd_v (.held _ _ _ rfl rfl rfl) rfl rfl (qt_eql_f rfl rfl rfl hP) ?_
            refine gd_v (.held _ _ _ rfl rfl rfl) rfl rfl (qt_move rfl rfl) ?_
            refine gd_v (.held _ _ _ rfl rfl rfl) rfl rfl (qt_move rfl rfl) ?_
            refine gd_v (.held _ _ _ rfl rfl rfl) rfl rfl (qt_move rfl rfl) ?_
            refine gd_v (.held _ _ _ rfl rfl rfl) rfl rfl (qt_index rfl rfl rfl ulE1 szE1 (fun w M => lenA_rd (two_rd2 (n := 0) M rfl)) (by omega) (by omega)) ?_
            refine gd_v (.held _ _ _ rfl rfl rfl) rfl rfl (qt_load1 rfl rfl Try.underlying2 rfl (fun w M => two_rd2 (n := 0) M rfl) (by omega) (by omega)) ?_
            refine gd_v (.held _ _ _ rfl rfl rfl) rfl rfl (qt_move rfl rfl) ?_
            refine gd_v (.held _ _ _ rfl rfl rfl) rfl rfl (qt_move rfl rfl) ?_
            refine gd_v (.held _ _ _ rfl rfl rfl) rfl rfl (qt_index rfl rfl rfl ulE1 szE1 (fun w M => lenA_rd (two_rd2 (n := 0) M rfl)) (by omega) (by omega)) ?_
            refine gd_v (.held _ _ _ rfl rfl rfl) rfl rfl (qt_load1 rfl rfl Try.underlying2 rfl (fun w M => two_rd2 (n := 0) M rfl) (by omega) (by omega)) ?_
            refine gd_v (.held _ _ _ rfl rfl rfl) rfl rfl (qt_eql_f rfl rfl rfl hQ) ?_
            refine gd_v (.held _ _ _ rfl rfl rfl) rfl rfl (qt_pick_f rfl rfl rfl) ?_
            refine gd_v (.held _ _ _ rfl rfl rfl) rfl rfl (qt_move rfl rfl) ?_
            refine gd_skip (.not _ _ _ _ rfl rfl rfl rfl) rfl rfl ?_
            refine gd_skip (.not _ _ _ _ rfl rfl rfl rfl) rfl rfl ?_
            refine gd_skip (.not _ _ _ _ rfl rfl rfl rfl) rfl rfl ?_
            refine gd_skip (.not _ _ _ _ rfl rfl rfl rfl) rfl rfl ?_
            refine gd_skip (.not _ _ _ _ rfl rfl rfl rfl) rfl rfl ?_
            refine gd_skip (.not _ _ _ _ rfl rfl rfl rfl) rfl rfl ?_
            refine gd_skip (.not _ _ _ _ rfl rfl rfl rfl) rfl rfl ?_
            refine gd_skip (.not _ _ _ _ rfl rfl rfl rfl) rfl rfl ?_
            refine gd_skip (.not _ _ _ _ rfl rfl rfl rfl) rfl rfl ?_
            refine gd_v (.held _ _ _ rfl rfl rfl) rfl rfl (qt_pick_f rfl rfl rfl) ?_
            refine gd_v (.free rfl) rfl rfl (qt_pick_f rfl rfl rfl) ?_
            refine gd_nil ?_
            refine gk_then (hK65 _ _ ?_)
            refine gc_cond_f rfl ?_
            refine gc_skip ?_
            refine gk_then (hK64 _ _ ?_)
            refine gc_seq fun K66 hK66 => ?_
            refine gc_draw (by kernel_rfl) ?_
            refine gd_v (.free rfl) rfl rfl (qt_move rfl rfl) ?_
            refine gd_v (.free rfl) rfl rfl (qt_move rfl rfl) ?_
            refine gd_v (.free rfl) rfl rfl (qt_index rfl rfl rfl ulE1 szE1 (fun w M => lenA_rd (two_rd1 (n := 0) M rfl)) (by omega) (by omega)) ?_
            refine gd_v (.free rfl) rfl rfl (qt_load1 rfl rfl Try.underlying2 rfl (fun w M => two_rd1 (n := 0) M rfl) (by omega) (by omega)) ?_
            refine gd_v (.free rfl) rfl rfl (qt_move rfl rfl) ?_
            refine gd_v (.free rfl) rfl rfl (qt_move rfl rfl) ?_
            refine gd_v (.free rfl) rfl rfl (qt_index rfl rfl rfl ulE1 szE1 (fun w M => lenA_rd (two_rd1 (n := 0) M rfl)) (by omega) (by omega)) ?_
            refine gd_v (.free rfl) rfl rfl (qt_load1 rfl rfl Try.underlying2 rfl (fun w M => two_rd1 (n := 0) M rfl) (by omega) (by omega)) ?_
            refine gd_v (.free rfl) rfl rfl (qt_eql_f rfl rfl rfl hP) ?_
            refine gd_nil ?_
            refine gk_then (hK66 _ _ ?_)
            refine gc_cond_f rfl ?_
            refine gc_skip ?_
            refine gk_block ?_
            refine gk_then (hK38 _ _ ?_)
            refine gc_region ?_
            refine g_v (.free rfl) rfl rfl (qt_move rfl rfl) ?_
            refine g_v (.free rfl) rfl rfl (qt_add rfl rfl rfl (by omega)) ?_
            refine g_v (.free rfl) rfl rfl (qt_assign rfl rfl) ?_
            refine g_nil ?_
            first | simp only [prS_t hP] | rw [prS_f hP]
            refine gk_then (gk_take 6 ?_)
            refine gk_sub ?hs_67 (hKL35 (l + 1, _, _, _) ?hi_67 ?hm_67)
            case hs_67 => exact (sub_cons rfl (sub_cons rfl (sub_cons rfl (sub_cons rfl (sub_cons rfl (sub_cons rfl (sub_cons rfl (sub_cons rfl (sub_cons rfl (sub_cons rfl (sub_cons rfl (sub_cons rfl (sub_cons rfl (sub_cons rfl (sub_cons rfl (sub_cons rfl (sub_cons rfl (sub_cons rfl sub_nil))))))))))))))))))
            case hi_67 => omega
            case hm_67 => omega
        · try simp only [decide_eq_true_eq, decide_eq_false_iff_not, Bool.not_eq_true', Bool.not_eq_false', Bool.not_eq_eq_eq_not, Bool.not_true, Bool.not_false, ne_eq, Decidable.not_not, Classical.not_not] at hc3
          refine gc_exit ?_
          refine gk_then_exit ?_
          refine gk_then_exit ?_
          refine gk_block_hit ?_
          refine gk_block ?_
          refine gk_then (hK33 _ _ ?_)
          refine gc_region ?_
          refine g_v (.free rfl) rfl rfl (qt_move rfl rfl) ?_
          refine g_v (.free rfl) rfl rfl (qt_add rfl rfl rfl (by omega)) ?_
          refine g_v (.free rfl) rfl rfl (qt_assign rfl rfl) ?_
          refine g_nil ?_
          obtain rfl : k = l := by omega
          rw [prS_end]
          refine gk_then (gk_take 6 ?_)
          refine gk_sub ?hs_68 (hKL30 (k + 1, _, _, _) ?hi_68 ?hm_68)
          case hs_68 => exact (sub_cons rfl (sub_cons rfl (sub_cons rfl (sub_cons rfl (sub_cons rfl (sub_cons rfl (sub_cons rfl (sub_cons rfl (sub_cons rfl (sub_cons rfl (sub_cons rfl (sub_cons rfl (sub_cons rfl (sub_cons rfl (sub_cons rfl (sub_cons rfl sub_nil))))))))))))))))
          case hi_68 => omega
          case hm_68 => omega
      · try simp only [decide_eq_true_eq, decide_eq_false_iff_not, Bool.not_eq_true', Bool.not_eq_false', Bool.not_eq_eq_eq_not, Bool.not_true, Bool.not_false, ne_eq, Decidable.not_not, Classical.not_not] at hc2
        refine gc_exit ?_
        refine gk_then_exit ?_
        refine gk_then_exit ?_
        refine gk_block_hit ?_
        refine gk_then (hK28 _ _ ?_)
        refine gc_seq fun K69 hK69 => ?_
        obtain rfl : k = f.length := by omega
        refine gc_region ?_
        refine g_v (.free rfl) rfl rfl (qt_move rfl rfl) ?_
        refine g_v (.free rfl) rfl rfl (qt_len rfl rfl ulE1 (fun w M => lenV_rd (two_rd1 (n := 0) M rfl))) ?_
        refine g_v (.free rfl) rfl rfl (qt_move rfl rfl) ?_
        refine g_op (.free rfl) fun K71 hK71 => ?_
        refine go_callLI rfl rfl rfl Try.func30 rfl (by decide) rfl (fun w M => HJP w _ (mem_rdU (n := 5) M rfl)) ?_
        intro va70 vc70
        refine hK71 _ _ ?_
        refine g_v (.free rfl) rfl rfl (qt_move rfl rfl) ?_
        refine g_v (.free rfl) rfl rfl (qt_extract rfl rfl rfl) ?_
        refine g_v (.free rfl) rfl rfl (qt_extract rfl rfl rfl) ?_
        refine g_v (.free rfl) rfl rfl (qt_assign rfl rfl) ?_
        refine g_v (.free rfl) rfl rfl (qt_assign rfl rfl) ?_
        refine g_nil ?_
        refine gk_then (hK69 _ _ ?_)
        refine gc_seq fun K72 hK72 => ?_
        refine gc_region ?_
        refine g_v (.free rfl) rfl rfl (qt_move rfl rfl) ?_
        refine g_v (.free rfl) rfl rfl (qt_eql_t rfl rfl rfl rfl) ?_
        refine g_v (.free rfl) rfl rfl (qt_move rfl rfl) ?_
        refine g_v (.held _ _ _ rfl rfl rfl) rfl rfl (qt_move rfl rfl) ?_
        refine g_v (.held _ _ _ rfl rfl rfl) rfl rfl (qt_move rfl rfl) ?_
        refine g_q (.held _ _ _ rfl rfl rfl) rfl rfl (qt_call rfl Try.func29 rfl (by decide) rfl (fun w M => like_refl_any w _ _ _ ((mem_own1 (n := 6) M rfl).rd) (two_rd1 (n := 0) M rfl))) ?_
        refine g_v (.free rfl) rfl rfl (qt_pick_t rfl rfl rfl) ?_
        refine g_v (.free rfl) rfl rfl (qt_move rfl rfl) ?_
        refine g_v (.held _ _ _ rfl rfl rfl) rfl rfl (qt_move rfl rfl) ?_
        refine g_q (.held _ _ _ rfl rfl rfl) rfl rfl (qt_call rfl Try.func31 rfl (by decide) rfl (fun w M => HPm w _ ((mem_own1 (n := 1) M rfl).rd))) ?_
        refine g_v (.free rfl) rfl rfl (qt_pick_t rfl rfl rfl) ?_
        refine g_v (.free rfl) rfl rfl (qt_move rfl rfl) ?_
        refine g_v (.held _ _ _ rfl rfl rfl) rfl rfl (qt_move rfl rfl) ?_
        refine g_q (.held _ _ _ rfl rfl rfl) rfl rfl (qt_call rfl Try.func31 rfl (by decide) rfl (fun w M => HPj w _ ((mem_own1 (n := 2) M rfl).rd))) ?_
        refine g_v (.free rfl) rfl rfl (qt_pick_t rfl rfl rfl) ?_
        refine g_v (.free rfl) rfl rfl (qt_assign rfl rfl) ?_
        refine g_nil ?_
        refine gk_then (hK72 _ _ ?_)
        refine gc_ret ?_
        refine ret_1 rfl rfl  (fun w M => ?_)
        exact ⟨rfl, M.1⟩

end Go.Proofs.Ytgkfampgofjkfaa
