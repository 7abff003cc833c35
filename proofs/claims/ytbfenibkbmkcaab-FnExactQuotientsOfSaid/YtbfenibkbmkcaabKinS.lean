
/- Arrows that generate powers, and classes of arrows that are below each other: what they are. -/
import Derived.Test.YtbfenibkbmkcaabKinM
import Derived.Test.YtbfenibkbmkcaabShpO
import Derived.Test.YtbfenibkbmkcaabSub
import Derived.Test.YtbfenibkbmkcaabFv
set_option linter.unusedSimpArgs false
set_option linter.unusedVariables false
set_option linter.unusedSectionVars false
namespace Go.Proofs.Ytbfenibkbmkcaab
open Go.RowKit


/-- The powers of an arrow, from the first on. -/
def pw (c : Cat) (f : Int) : Nat → Int
  | 0 => f
  | k + 1 => c.th (pw c f k) f
def pwL (c : Cat) (f : Int) (k : Nat) : List Int := tabTo (pw c f) k
def cycP (c : Cat) (f : Int) (k : Nat) : Prop := pw c f (k + 1) ∈ pwL c f (k + 1)
noncomputable def stopP (c : Cat) (f : Int) : Nat := leastN (cycP c f)
noncomputable def cycA (c : Cat) (f : Int) : Int := idxI (pwL c f (stopP c f + 1)) (pw c f (stopP c f + 1)) + 1
noncomputable def cycB (c : Cat) (f : Int) : Int := ((stopP c f : Int) + 1) - idxI (pwL c f (stopP c f + 1)) (pw c f (stopP c f + 1))
theorem pw_zero (c : Cat) (f : Int) : pw c f 0 = f := rfl
theorem pw_succ (c : Cat) (f : Int) (k : Nat) : c.th (pw c f k) f = pw c f (k + 1) := rfl
theorem pwL_one (c : Cat) (f : Int) : pwL c f 1 = [f] := rfl
theorem pwL_len (c : Cat) (f : Int) (k : Nat) : (pwL c f k).length = k := tabTo_len _ _
theorem pwL_succ (c : Cat) (f : Int) (k : Nat) : pwL c f k ++ [pw c f k] = pwL c f (k + 1) := tabTo_succ _ _
theorem pwL_last (c : Cat) (f : Int) (k : Nat) : at0 (pwL c f (k + 1)) (k : Int) = pw c f k := tabTo_at _ (by omega)
theorem pw_in {c : Cat} (hS : ShapeP c) {f : Int} (f0 : 0 ≤ f) (f1 : f < c.s.length) (he : at0 c.s f = at0 c.t f) : ∀ k, 0 ≤ pw c f k ∧ pw c f k < c.s.length ∧ at0 c.s (pw c f k) = at0 c.s f ∧ at0 c.t (pw c f k) = at0 c.s f
  | 0 => ⟨f0, f1, rfl, he.symm⟩
  | k + 1 => by
    obtain ⟨h0, h1, h2, h3⟩ := pw_in hS f0 f1 he k
    have ht := th_ends hS h0 h1 f0 f1 h3
    exact ⟨ht.1.1, ht.1.2, ht.2.1.trans h2, ht.2.2.trans he.symm⟩
theorem nodup_le {m : Nat} {xs : List Int} (hn : xs.Nodup) (h : ∀ x ∈ xs, 0 ≤ x ∧ x < m) : xs.length ≤ m := by
  have hs : xs ⊆ tabTo (fun j => (j : Int)) m := fun x hx => by
    have := h x hx
    obtain ⟨j, rfl⟩ := Int.eq_ofNat_of_zero_le this.1
    exact List.mem_map.2 ⟨j, List.mem_range.2 (by omega), rfl⟩
  have := hn.length_le_of_subset hs
  rwa [tabTo_len] at this
theorem pwL_nodup {c : Cat} {f : Int} : ∀ {k : Nat}, (∀ j, j < k → ¬ cycP c f j) → (pwL c f (k + 1)).Nodup
  | 0, _ => by rw [pwL_one]; simp
  | k + 1, h => by
    have ih := pwL_nodup (c := c) (f := f) (k := k) fun j hj => h j (by omega)
    rw [← pwL_succ]
    refine List.nodup_append.2 ⟨ih, by simp, fun a ha b hb e => ?_⟩
    rw [List.mem_singleton] at hb
    rw [e, hb] at ha
    exact h k (by omega) ha
theorem pwL_bound {c : Cat} (hS : ShapeP c) {f : Int} (f0 : 0 ≤ f) (f1 : f < c.s.length) (he : at0 c.s f = at0 c.t f) {k : Nat} (h : ∀ j, j < k → ¬ cycP c f j) : k + 1 ≤ c.s.length := by
  have := nodup_le (m := c.s.length) (pwL_nodup h) fun x hx => by
    obtain ⟨j, _, rfl⟩ := List.mem_map.1 hx
    have := pw_in hS f0 f1 he j
    exact ⟨this.1, this.2.1⟩
  rwa [pwL_len] at this
theorem stop_eq {c : Cat} {f : Int} {k : Nat} (h : ∀ j, j < k → ¬ cycP c f j) (hk : cycP c f k) : stopP c f = k := by
  have := leastN_spec hk
  rcases Nat.lt_or_ge (stopP c f) k with h1 | h1
  · exact absurd this.1 (h _ h1)
  · exact Nat.le_antisymm this.2 h1
theorem cyc_eq {c : Cat} {f : Int} {k : Nat} (h : ∀ j, j < k → ¬ cycP c f j) (hk : cycP c f k) : cycA c f = idxI (pwL c f (k + 1)) (pw c f (k + 1)) + 1 ∧ cycB c f = ((k : Int) + 1) - idxI (pwL c f (k + 1)) (pw c f (k + 1)) := by
  unfold cycA cycB
  rw [stop_eq h hk]; exact ⟨rfl, rfl⟩
def RetIII (W : World) (a b d : Int) (e : Ending) (w' : World) : Prop := e = .returned (.tuple #[.int .i64 a, .int .i64 b, .int .i64 d]) ∧ Below W.heap.size W w'
noncomputable def fPowerCycle (c : Cat) (f : Int) : Int × Int × Int := if arrErr c [f] = 0 then (if at0 c.s f = at0 c.t f then (cycA c f, cycB c f, 0) else (0, 0, 5)) else (0, 0, arrErr c [f])

/-! ### Classes -/
def belP (c : Cat) (m n : Int) : Prop := ∃ k : Nat, k < c.s.length ∧ bef c n (k : Int) = m
def extQ (c : Cat) (m n : Int) : Prop := ∃ k : Nat, k < c.s.length ∧ beh c n (k : Int) = m
def mutR (r : Int → Int → Prop) (m : Int) (l : List Int) : Prop := r m (at0 l 0) ∧ r (at0 l 0) m
noncomputable def addR (r : Int → Int → Prop) (out : List (List Int)) (m : Int) : List (List Int) := match firstN (fun i => mutR r m (row2 out (i : Int))) out.length with
  | some i => out.set i (row2 out (i : Int) ++ [m])
  | none => out ++ [[m]]
noncomputable def clsR (r : Int → Int → Prop) (xs : List Int) : List (List Int) := xs.foldl (addR r) []
theorem clsR_app (r : Int → Int → Prop) (xs : List Int) (m : Int) : clsR r (xs ++ [m]) = addR r (clsR r xs) m := by simp [clsR]
theorem addR_old {r : Int → Int → Prop} {out : List (List Int)} {m : Int} {i : Nat} (hi : i < out.length) (h : mutR r m (row2 out (i : Int))) (h2 : ∀ j : Nat, j < i → ¬ mutR r m (row2 out (j : Int))) : addR r out m = out.set i (row2 out (i : Int) ++ [m]) := by
  unfold addR; rw [firstN_some hi h h2]
theorem addR_new {r : Int → Int → Prop} {out : List (List Int)} {m : Int} (h : ∀ j : Nat, j < out.length → ¬ mutR r m (row2 out (j : Int))) : addR r out m = out ++ [[m]] := by
  unfold addR; rw [firstN_none h]
/-- The classes have members, and no two of them are one. -/
structure SepR (r : Int → Int → Prop) (n : Nat) (out : List (List Int)) : Prop where
  ne : ∀ i : Nat, i < out.length → row2 out (i : Int) ≠ []
  hd : ∀ i : Nat, i < out.length → ∀ x ∈ row2 out (i : Int), 0 ≤ x ∧ x < n
  sep : ∀ i j : Nat, i < j → j < out.length → ¬ (r (at0 (row2 out (i : Int)) 0) (at0 (row2 out (j : Int)) 0) ∧ r (at0 (row2 out (j : Int)) 0) (at0 (row2 out (i : Int)) 0))
theorem sep_zero (r : Int → Int → Prop) (n : Nat) : SepR r n [] := ⟨fun i h => absurd h (by simp), fun i h => absurd h (by simp), fun i j _ h => absurd h (by simp)⟩
theorem row2_app {out : List (List Int)} {l : List Int} {i : Nat} (h : i < out.length) : row2 (out ++ [l]) (i : Int) = row2 out (i : Int) := by
  unfold row2; rw [Int.toNat_natCast, List.getD_eq_getElem?_getD, List.getD_eq_getElem?_getD, List.getElem?_append_left h]
theorem row2_new {out : List (List Int)} {l : List Int} : row2 (out ++ [l]) (out.length : Int) = l := by
  unfold row2; rw [Int.toNat_natCast, List.getD_eq_getElem?_getD, List.getElem?_append_right (Nat.le_refl _)]; simp
theorem row2_set {out : List (List Int)} {l : List Int} {i j : Nat} (hi : i < out.length) : row2 (out.set i l) (j : Int) = if i = j then l else row2 out (j : Int) := by
  unfold row2; rw [Int.toNat_natCast, List.getD_eq_getElem?_getD, List.getElem?_set]
  by_cases h : i = j
  · subst h; simp [hi]
  · simp [h]
theorem at0_head {l : List Int} {m : Int} (h : l ≠ []) : at0 (l ++ [m]) 0 = at0 l 0 := by
  cases l with
  | nil => exact absurd rfl h
  | cons a l => rfl
theorem head_in {l : List Int} (h : l ≠ []) : at0 l 0 ∈ l := by
  cases l with
  | nil => exact absurd rfl h
  | cons a l => exact List.mem_cons_self ..
theorem sep_add {r : Int → Int → Prop} {n : Nat} {out : List (List Int)} {m : Int} (h : SepR r n out) (m0 : 0 ≤ m) (m1 : m < n) : SepR r n (addR r out m) := by
  by_cases hx : ∃ i, i < out.length ∧ mutR r m (row2 out (i : Int)) ∧ ∀ j : Nat, j < i → ¬ mutR r m (row2 out (j : Int))
  · obtain ⟨i, hi, h1, h2⟩ := hx
    rw [addR_old hi h1 h2]
    have hh : ∀ j : Nat, j < out.length → at0 (row2 (out.set i (row2 out (i : Int) ++ [m])) (j : Int)) 0 = at0 (row2 out (j : Int)) 0 := fun j hj => by
      rw [row2_set hi]
      split
      · rename_i e; subst e; exact at0_head (h.ne i hi)
      · rfl
    refine ⟨fun j hj => ?_, fun j hj => ?_, fun a b hab hb => ?_⟩
    · rw [row2_set hi]; split
      · simp
      · exact h.ne j (by simpa using hj)
    · rw [row2_set hi]; split
      · intro x hx
        rcases List.mem_append.1 hx with hx | hx
        · exact h.hd i hi x hx
        · rw [List.mem_singleton.1 hx]; exact ⟨m0, m1⟩
      · exact h.hd j (by simpa using hj)
    · have hb' : b < out.length := by simpa using hb
      rw [hh a (by omega), hh b hb']
      exact h.sep a b hab hb'
  · have hno : ∀ j : Nat, j < out.length → ¬ mutR r m (row2 out (j : Int)) := fun j hj hm => by
      have := leastN_spec (p := fun j => j < out.length ∧ mutR r m (row2 out (j : Int))) ⟨hj, hm⟩
      refine hx ⟨_, this.1.1, this.1.2, fun i hi hc => ?_⟩
      have := (leastN_spec (p := fun j => j < out.length ∧ mutR r m (row2 out (j : Int))) (n := i) ⟨by have := this.1.1; omega, hc⟩).2
      omega
    rw [addR_new hno]
    refine ⟨fun j hj => ?_, fun j hj => ?_, fun a b hab hb => ?_⟩
    · rcases Nat.lt_or_ge j out.length with h1 | h1
      · rw [row2_app h1]; exact h.ne j h1
      · obtain rfl : j = out.length := by simp at hj; omega
        rw [row2_new]; simp
    · rcases Nat.lt_or_ge j out.length with h1 | h1
      · rw [row2_app h1]; exact h.hd j h1
      · obtain rfl : j = out.length := by simp at hj; omega
        rw [row2_new]; intro x hx; rw [List.mem_singleton.1 hx]; exact ⟨m0, m1⟩
    · rcases Nat.lt_or_ge b out.length with h1 | h1
      · rw [row2_app h1, row2_app (by omega)]; exact h.sep a b hab h1
      · obtain rfl : b = out.length := by simp at hb; omega
        rw [row2_new, row2_app hab]
        intro hc
        exact hno a hab ⟨hc.2, hc.1⟩
def TransR (r : Int → Int → Prop) (n : Nat) : Prop := ∀ a b d : Int, 0 ≤ a → a < n → 0 ≤ b → b < n → 0 ≤ d → d < n → r a b → r b d → r a d
theorem sep_one {r : Int → Int → Prop} {n : Nat} {out : List (List Int)} {m : Int} (h : SepR r n out) (ht : TransR r n) (m0 : 0 ≤ m) (m1 : m < n) {i j : Nat} (hi : i < out.length) (hj : j < out.length) (h1 : mutR r m (row2 out (i : Int))) (h2 : mutR r m (row2 out (j : Int))) : i = j := by
  have key : ∀ a b : Nat, a < b → b < out.length → mutR r m (row2 out (a : Int)) → mutR r m (row2 out (b : Int)) → False := fun a b hab hb ha hb2 => by
    have ra := h.hd a (by omega) _ (head_in (h.ne a (by omega)))
    have rb := h.hd b hb _ (head_in (h.ne b hb))
    exact h.sep a b hab hb ⟨ht _ m _ ra.1 ra.2 m0 m1 rb.1 rb.2 ha.2 hb2.1, ht _ m _ rb.1 rb.2 m0 m1 ra.1 ra.2 hb2.2 ha.1⟩
  rcases Nat.lt_trichotomy i j with h3 | h3 | h3
  · exact (key i j h3 hj h1 h2).elim
  · exact h3
  · exact (key j i h3 hi h2 h1).elim
/-- The classes, with the new arrow in those that it belongs to. -/
noncomputable def nxR (r : Int → Int → Prop) (out : List (List Int)) (m : Int) (i : Nat) : List Int := bif bP (mutR r m (row2 out (i : Int))) then row2 out (i : Int) ++ [m] else row2 out (i : Int)
theorem nx_t {r : Int → Int → Prop} {out : List (List Int)} {m : Int} {i : Nat} (h : mutR r m (row2 out (i : Int))) : row2 out (i : Int) ++ [m] = nxR r out m i := by unfold nxR; rw [bP_t h]; rfl
theorem nx_f {r : Int → Int → Prop} {out : List (List Int)} {m : Int} {i : Nat} (h : ¬ mutR r m (row2 out (i : Int))) : row2 out (i : Int) = nxR r out m i := by unfold nxR; rw [bP_f h]; rfl
theorem rows_ext {xs ys : List (List Int)} (hl : xs.length = ys.length) (h : ∀ j : Nat, j < xs.length → row2 xs (j : Int) = row2 ys (j : Int)) : xs = ys := by
  refine List.ext_getElem hl fun j h1 h2 => ?_
  have := h j h1
  unfold row2 at this
  rw [Int.toNat_natCast, List.getD_eq_getElem?_getD, List.getD_eq_getElem?_getD, List.getElem?_eq_getElem h1, List.getElem?_eq_getElem h2] at this
  exact this
theorem nx_old {r : Int → Int → Prop} {n : Nat} {out : List (List Int)} {m : Int} (h : SepR r n out) (ht : TransR r n) (m0 : 0 ≤ m) (m1 : m < n) {i : Nat} (hi : i < out.length) (h1 : mutR r m (row2 out (i : Int))) : rowsTo (nxR r out m) out.length = addR r out m := by
  rw [addR_old hi h1 fun j hj h2 => absurd (sep_one h ht m0 m1 (by omega) hi h2 h1) (by omega)]
  refine rows_ext (by rw [rowsTo_len, List.length_set]) fun j hj => ?_
  rw [rowsTo_len] at hj
  rw [rowsTo_at _ hj, row2_set hi]
  by_cases e : i = j
  · subst e; rw [if_pos rfl, nx_t h1]
  · rw [if_neg e, nx_f fun h2 => e (sep_one h ht m0 m1 hi hj h1 h2)]
theorem nx_new {r : Int → Int → Prop} {out : List (List Int)} {m : Int} (h : ∀ j : Nat, j < out.length → ¬ mutR r m (row2 out (j : Int))) : rowsTo (nxR r out m) out.length ++ [[m]] = addR r out m := by
  rw [addR_new h]
  congr 1
  refine rows_ext (rowsTo_len _ _) fun j hj => ?_
  rw [rowsTo_len] at hj
  rw [rowsTo_at _ hj, nx_f (h j hj)]
theorem bel_iff {c : Cat} (hS : ShapeP c) {m n : Int} (m0 : 0 ≤ m) (n0 : 0 ≤ n) (n1 : n < c.s.length) {k : Nat} (hk : k < c.s.length) : (at0 c.s k = at0 c.s m ∧ at0 c.t k = at0 c.s n ∧ c.th k n = m) ↔ bef c n (k : Int) = m :=
  lift_iff hS m0 n0 n1 (by omega) (by omega)
theorem bel_trans {c : Cat} (hC : IsCat c) : TransR (belP c) c.s.length := by
  rintro a b d a0 a1 b0 b1 d0 d1 ⟨k, hk, h1⟩ ⟨l, hl, h2⟩
  have e1 := (lift_iff hC.toShapeP a0 b0 b1 (h := (k : Int)) (by omega) (by omega)).2 h1
  have e2 := (lift_iff hC.toShapeP b0 d0 d1 (h := (l : Int)) (by omega) (by omega)).2 h2
  have e3 : at0 c.t (k : Int) = at0 c.s (l : Int) := by rw [e1.2.1, e2.1]
  have ht := th_ends hC.toShapeP (f := (k : Int)) (g := (l : Int)) (by omega) (by omega) (by omega) (by omega) e3
  obtain ⟨q, hq⟩ := Int.eq_ofNat_of_zero_le ht.1.1
  refine ⟨q, by omega, ?_⟩
  show c.th q d = a
  rw [← hq, assocI hC (by omega) (by omega) (by omega) (by omega) d0 d1 e3 e2.2.1, show c.th (l : Int) d = b from h2]
  exact h1
theorem ext_trans {c : Cat} (hC : IsCat c) : TransR (extQ c) c.s.length := by
  rintro a b d a0 a1 b0 b1 d0 d1 ⟨k, hk, h1⟩ ⟨l, hl, h2⟩
  have e1 := (ext_iff hC.toShapeP a0 b0 b1 (h := (k : Int)) (by omega) (by omega)).2 h1
  have e2 := (ext_iff hC.toShapeP b0 d0 d1 (h := (l : Int)) (by omega) (by omega)).2 h2
  have e3 : at0 c.t (l : Int) = at0 c.s (k : Int) := by rw [e1.1, e2.2.1]
  have ht := th_ends hC.toShapeP (f := (l : Int)) (g := (k : Int)) (by omega) (by omega) (by omega) (by omega) e3
  obtain ⟨q, hq⟩ := Int.eq_ofNat_of_zero_le ht.1.1
  refine ⟨q, by omega, ?_⟩
  show c.th d q = a
  rw [← hq, ← assocI hC d0 d1 (by omega) (by omega) (by omega) (by omega) e2.1.symm e3, show c.th d (l : Int) = b from h2]
  exact h1
noncomputable def monL (c : Cat) (x : Int) (k : Nat) : List Int := filTo (fun f => at0 c.t (f : Int) = x ∧ monoP c (f : Int)) (fun f => (f : Int)) k
noncomputable def epiL (c : Cat) (x : Int) (k : Nat) : List Int := filTo (fun f => at0 c.s (f : Int) = x ∧ epiP c (f : Int)) (fun f => (f : Int)) k
theorem monL_t {c : Cat} {x : Int} {k : Nat} (h : at0 c.t (k : Int) = x) (h2 : monoP c (k : Int)) : monL c x k ++ [(k : Int)] = monL c x (k + 1) := filTo_t (p := fun f => at0 c.t (f : Int) = x ∧ monoP c (f : Int)) ⟨h, h2⟩
theorem monL_f {c : Cat} {x : Int} {k : Nat} (h : ¬ (at0 c.t (k : Int) = x ∧ monoP c (k : Int))) : monL c x k = monL c x (k + 1) := filTo_f (p := fun f => at0 c.t (f : Int) = x ∧ monoP c (f : Int)) h
theorem monL_mem {c : Cat} {x y : Int} {k : Nat} (h : y ∈ monL c x k) : 0 ≤ y ∧ y < k := by obtain ⟨j, h1, _, rfl⟩ := filTo_mem.1 h; omega
theorem monL_len (c : Cat) (x : Int) (k : Nat) : (monL c x k).length ≤ k := filTo_len _ _ _
theorem epiL_len (c : Cat) (x : Int) (k : Nat) : (epiL c x k).length ≤ k := filTo_len _ _ _
theorem epiL_mem {c : Cat} {x y : Int} {k : Nat} (h : y ∈ epiL c x k) : 0 ≤ y ∧ y < k := by obtain ⟨j, h1, _, rfl⟩ := filTo_mem.1 h; omega
noncomputable def fSubobjectsOf (c : Cat) (x : Int) : List (List Int) × Int := if objErr c [x] = 0 then (clsR (belP c) (monL c x c.s.length), 0) else ([], objErr c [x])
noncomputable def fQuotientsOf (c : Cat) (x : Int) : List (List Int) × Int := if objErr c [x] = 0 then (clsR (extQ c) (epiL c x c.s.length), 0) else ([], objErr c [x])
theorem sep_cls {r : Int → Int → Prop} {n : Nat} : ∀ {xs : List Int}, (∀ x ∈ xs, 0 ≤ x ∧ x < n) → SepR r n (clsR r xs) := by
  intro xs
  have key : ∀ (xs : List Int) (out : List (List Int)), SepR r n out → (∀ x ∈ xs, 0 ≤ x ∧ x < n) → SepR r n (xs.foldl (addR r) out) := by
    intro xs
    induction xs with
    | nil => exact fun out h _ => h
    | cons a xs ih => exact fun out h hx => ih _ (sep_add h (hx a (List.mem_cons_self ..)).1 (hx a (List.mem_cons_self ..)).2) fun x hm => hx x (List.mem_cons_of_mem _ hm)
  exact key xs [] (sep_zero r n)
theorem addR_len (r : Int → Int → Prop) (out : List (List Int)) (m : Int) : (addR r out m).length ≤ out.length + 1 := by
  unfold addR; split
  · rw [List.length_set]; omega
  · simp
theorem addR_row {r : Int → Int → Prop} {out : List (List Int)} {m : Int} {b : Nat} (h : ∀ i : Nat, i < out.length → (row2 out (i : Int)).length ≤ b) : ∀ i : Nat, i < (addR r out m).length → (row2 (addR r out m) (i : Int)).length ≤ b + 1 := by
  intro i hi
  unfold addR at hi ⊢
  split at hi
  · rename_i k hk
    have hkl : k < out.length := by
      unfold firstN at hk
      have := List.mem_of_find?_eq_some hk
      simpa using this
    rw [row2_set hkl]
    split
    · have := h k hkl; simp; omega
    · have := h i (by simpa using hi); omega
  · rename_i hk
    rcases Nat.lt_or_ge i out.length with h1 | h1
    · rw [row2_app h1]; have := h i h1; omega
    · obtain rfl : i = out.length := by simp at hi; omega
      rw [row2_new]; simp
theorem cls_len (r : Int → Int → Prop) (xs : List Int) : (clsR r xs).length ≤ xs.length := by
  have key : ∀ (xs : List Int) (out : List (List Int)), (xs.foldl (addR r) out).length ≤ out.length + xs.length := by
    intro xs
    induction xs with
    | nil => intro out; simp
    | cons a xs ih => intro out; have := ih (addR r out a); have := addR_len r out a; simp only [List.foldl_cons, List.length_cons]; omega
  have := key xs []
  simpa [clsR] using this
theorem cls_row (r : Int → Int → Prop) (xs : List Int) : ∀ i : Nat, i < (clsR r xs).length → (row2 (clsR r xs) (i : Int)).length ≤ xs.length := by
  have key : ∀ (xs : List Int) (out : List (List Int)) (b : Nat), (∀ i : Nat, i < out.length → (row2 out (i : Int)).length ≤ b) → ∀ i : Nat, i < (xs.foldl (addR r) out).length → (row2 (xs.foldl (addR r) out) (i : Int)).length ≤ b + xs.length := by
    intro xs
    induction xs with
    | nil => intro out b h; exact h
    | cons a xs ih =>
      intro out b h i hi
      have := ih (addR r out a) (b + 1) (addR_row h) i hi
      simp only [List.foldl_cons, List.length_cons] at this ⊢; omega
  have := key xs [] 0 (fun i hi => absurd hi (by simp))
  simpa [clsR] using this


/-! ### The opposite category -/
theorem opp_th {c : Cat} {f g : Nat} (hf : f < c.s.length) (hg : g < c.s.length) : (oppM c).th (f : Int) (g : Int) = c.th (g : Int) (f : Int) := by
  show at0 (row2 (rowsTo _ _) (f : Int)) (g : Int) = _
  rw [rowsTo_at _ hf, tabTo_at _ hg]
theorem opp_len {c : Cat} (hS : ShapeP c) : (oppM c).s.length = c.s.length := hS.tl
theorem opp_cat {c : Cat} (hC : IsCat c) : IsCat (oppM c) := by
  have hS := hC.toShapeP
  have tl := hS.tl
  refine { toShapeP := opp_shape hS, idl := fun f hf => ?_, assoc := fun f g h hf hg hh hb => ?_ }
  · have hf' : f < c.s.length := by rw [← opp_len hS]; exact hf
    have hA := arrP hS (f := (f : Int)) (by omega) (by omega)
    have hu := unitL hC (f := (f : Int)) (by omega) (by omega)
    have i1 := hS.idn (x := at0 c.t f) hA.t0 (by have := hA.t1; have := hS.el; omega)
    have i2 := hS.idn (x := at0 c.s f) hA.s0 (by have := hA.s1; have := hS.el; omega)
    show (oppM c).th (at0 c.e (at0 c.t f)) f = f ∧ (oppM c).th f (at0 c.e (at0 c.s f)) = f
    obtain ⟨a, ha⟩ := Int.eq_ofNat_of_zero_le i1.1
    obtain ⟨b, hb⟩ := Int.eq_ofNat_of_zero_le i2.1
    rw [ha] at hu i1 ⊢
    rw [hb] at hu i2 ⊢
    rw [opp_th (by omega) hf', opp_th hf' (by omega)]
    exact ⟨hu.2, hu.1⟩
  · rw [opp_len hS] at hf hg hh
    obtain ⟨e1, e2, e3⟩ := hb
    have e1' : at0 c.s (f : Int) = at0 c.t (g : Int) := e1
    have e2' : at0 c.s (g : Int) = at0 c.t (h : Int) := e2
    have t1 := th_ends hS (f := (g : Int)) (g := (f : Int)) (by omega) (by omega) (by omega) (by omega) e1'.symm
    have t2 := th_ends hS (f := (h : Int)) (g := (g : Int)) (by omega) (by omega) (by omega) (by omega) e2'.symm
    have hc := assocI hC (f := (h : Int)) (g := (g : Int)) (h := (f : Int)) (by omega) (by omega) (by omega) (by omega) (by omega) (by omega) e2'.symm e1'.symm
    rw [opp_th hf hg, opp_th hg hh] at e3
    obtain ⟨a, ha⟩ := Int.eq_ofNat_of_zero_le t1.1.1
    obtain ⟨b, hb⟩ := Int.eq_ofNat_of_zero_le t2.1.1
    rw [ha] at e3 hc t1
    rw [hb] at e3 hc t2
    rw [opp_th (by omega) hh, opp_th hf (by omega)] at e3
    exact e3 hc.symm
theorem opp_bef {c : Cat} {f g : Nat} (hf : f < c.s.length) (hg : g < c.s.length) : bef (oppM c) (f : Int) (g : Int) = beh c (f : Int) (g : Int) := opp_th hg hf
theorem canc_congr {fs gs : List (Int → Int)} {m : Nat} (h : ∀ φ ∈ fs, ∃ ψ ∈ gs, ∀ g : Nat, g < m → φ g = ψ g) (h2 : ∀ ψ ∈ gs, ∃ φ ∈ fs, ∀ g : Nat, g < m → φ g = ψ g) : cancP fs m ↔ cancP gs m := by
  constructor
  · intro hc g x hx hg
    obtain ⟨φ, h1, h3⟩ := hc g x hx hg
    obtain ⟨ψ, h4, h5⟩ := h φ h1
    exact ⟨ψ, h4, by rw [← h5 g hg, ← h5 x (by omega)]; exact h3⟩
  · intro hc g x hx hg
    obtain ⟨ψ, h1, h3⟩ := hc g x hx hg
    obtain ⟨φ, h4, h5⟩ := h2 ψ h1
    exact ⟨φ, h4, by rw [h5 g hg, h5 x (by omega)]; exact h3⟩
theorem opp_mono {c : Cat} (hS : ShapeP c) {f : Nat} (hf : f < c.s.length) : monoP (oppM c) (f : Int) ↔ epiP c (f : Int) := by
  unfold monoP epiP
  rw [opp_len hS]
  exact canc_congr (fun φ h => ⟨beh c (f : Int), by simp, fun g hg => by rw [List.mem_singleton] at h; subst h; exact opp_bef hf hg⟩) (fun φ h => ⟨bef (oppM c) (f : Int), by simp, fun g hg => by rw [List.mem_singleton] at h; subst h; exact opp_bef hf hg⟩)
theorem opp_bel {c : Cat} (hS : ShapeP c) {m n : Int} (n0 : 0 ≤ n) (n1 : n < c.s.length) : belP (oppM c) m n ↔ extQ c m n := by
  obtain ⟨b, rfl⟩ := Int.eq_ofNat_of_zero_le n0
  unfold belP extQ
  rw [opp_len hS]
  exact ⟨fun ⟨k, hk, h⟩ => ⟨k, hk, by rw [← opp_bef (by omega) hk]; exact h⟩, fun ⟨k, hk, h⟩ => ⟨k, hk, by rw [opp_bef (by omega) hk]; exact h⟩⟩
theorem opp_monL {c : Cat} (hS : ShapeP c) (x : Int) : monL (oppM c) x (oppM c).s.length = epiL c x c.s.length := by
  rw [opp_len hS]
  exact filTo_congr fun j hj => ⟨fun h => ⟨h.1, (opp_mono hS hj).1 h.2⟩, fun h => ⟨h.1, (opp_mono hS hj).2 h.2⟩⟩
theorem mutR_congr {r q : Int → Int → Prop} {n : Nat} (h : ∀ a b : Int, 0 ≤ a → a < n → 0 ≤ b → b < n → (r a b ↔ q a b)) {m : Int} {l : List Int} (m0 : 0 ≤ m) (m1 : m < n) (l0 : 0 ≤ at0 l 0) (l1 : at0 l 0 < n) : mutR r m l ↔ mutR q m l := by
  unfold mutR; rw [h _ _ m0 m1 l0 l1, h _ _ l0 l1 m0 m1]
theorem firstN_congr {p q : Nat → Prop} {n : Nat} (h : ∀ k, k < n → (p k ↔ q k)) : firstN p n = firstN q n := by
  unfold firstN
  have : ∀ xs : List Nat, (∀ x ∈ xs, x < n) → (xs.find? fun k => bP (p k)) = xs.find? fun k => bP (q k) := by
    intro xs
    induction xs with
    | nil => intro _; rfl
    | cons a xs ih => intro hx; rw [List.find?_cons, List.find?_cons, bP_congr (h a (hx a (List.mem_cons_self ..))), ih fun x hm => hx x (List.mem_cons_of_mem _ hm)]
  exact this _ fun x hx => List.mem_range.1 hx
theorem cls_congr {r q : Int → Int → Prop} {n : Nat} (h : ∀ a b : Int, 0 ≤ a → a < n → 0 ≤ b → b < n → (r a b ↔ q a b)) {xs : List Int} (hx : ∀ x ∈ xs, 0 ≤ x ∧ x < n) : clsR r xs = clsR q xs := by
  have key : ∀ (xs : List Int) (out : List (List Int)), SepR r n out → (∀ x ∈ xs, 0 ≤ x ∧ x < n) → xs.foldl (addR r) out = xs.foldl (addR q) out := by
    intro xs
    induction xs with
    | nil => intro out _ _; rfl
    | cons a xs ih =>
      intro out hs hx
      have ha := hx a (List.mem_cons_self ..)
      have e : addR r out a = addR q out a := by
        unfold addR
        rw [firstN_congr fun k hk => mutR_congr h ha.1 ha.2 (hs.hd k hk _ (head_in (hs.ne k hk))).1 (hs.hd k hk _ (head_in (hs.ne k hk))).2]
      show xs.foldl (addR r) (addR r out a) = xs.foldl (addR q) (addR q out a)
      rw [← e]
      exact ih _ (sep_add hs ha.1 ha.2) fun x hm => hx x (List.mem_cons_of_mem _ hm)
  exact key xs [] (sep_zero r n) hx
theorem opp_cls {c : Cat} (hS : ShapeP c) (x : Int) : clsR (belP (oppM c)) (monL (oppM c) x (oppM c).s.length) = clsR (extQ c) (epiL c x c.s.length) := by
  rw [opp_monL hS]
  exact cls_congr (n := c.s.length) (fun a b _ _ b0 b1 => opp_bel hS b0 b1) fun y hy => epiL_mem hy
/-! ### Jointly -/
def joinP (c : Cat) (fs : List Int) : Prop := cancP (fs.map (bef c)) c.s.length
def jeinP (c : Cat) (fs : List Int) : Prop := cancP (fs.map (beh c)) c.s.length
def badJ (c : Cat) (fs : List Int) (g h : Nat) : Prop := (at0 c.s g = at0 c.s h ∧ at0 c.t g = at0 c.t h ∧ at0 c.t g = at0 c.s (at0 fs 0)) ∧ ∀ j : Nat, j < fs.length → c.th g (at0 fs (j : Int)) = c.th h (at0 fs (j : Int))
def endsP (es fs : List Int) : Prop := ∀ j : Nat, j < fs.length → at0 es (at0 fs (j : Int)) = at0 es (at0 fs 0)
theorem badJ_iff {c : Cat} (hS : ShapeP c) {fs : List Int} (hx : AllP c.s.length fs) (hne : fs ≠ []) (he : endsP c.s fs) {g h : Nat} (hg : g < c.s.length) (hh : h < c.s.length) : badJ c fs g h ↔ ¬ ∃ φ ∈ fs.map (bef c), φ h = -1 ∨ φ h ≠ φ g := by
  have hl : 0 < fs.length := by cases fs with
    | nil => exact absurd rfl hne
    | cons a l => simp
  constructor
  · rintro ⟨⟨h1, h2, h3⟩, h4⟩ ⟨φ, hm, h5⟩
    obtain ⟨f, hf, rfl⟩ := List.mem_map.1 hm
    obtain ⟨j, hj, rfl⟩ := mem_atK hf
    have hr := allP_at hx hj
    unfold bef at h5
    rcases h5 with h5 | h5
    · exact (th_none hS (f := (h : Int)) (by omega) (by omega) hr.1 hr.2).1 h5 (by rw [← h2, h3, he j hj])
    · exact h5 (h4 j hj).symm
  · intro hn
    have key : ∀ j : Nat, j < fs.length → c.th h (at0 fs (j : Int)) ≠ -1 ∧ c.th h (at0 fs (j : Int)) = c.th g (at0 fs (j : Int)) := fun j hj =>
      ⟨fun h1 => hn ⟨bef c (at0 fs (j : Int)), List.mem_map.2 ⟨_, at0_mem hj, rfl⟩, .inl h1⟩, Classical.byContradiction fun h1 => hn ⟨bef c (at0 fs (j : Int)), List.mem_map.2 ⟨_, at0_mem hj, rfl⟩, .inr h1⟩⟩
    have k0 := key 0 hl
    have hr := allP_at hx hl
    rw [show ((0 : Nat) : Int) = 0 from rfl] at k0 hr
    have e1 := th_m1 hS (f := (h : Int)) (by omega) (by omega) hr.1 hr.2 k0.1
    have e2 := th_m1 hS (f := (g : Int)) (by omega) (by omega) hr.1 hr.2 (by rw [← k0.2]; exact k0.1)
    have t1 := th_ends hS (f := (h : Int)) (by omega) (by omega) hr.1 hr.2 e1
    have t2 := th_ends hS (f := (g : Int)) (by omega) (by omega) hr.1 hr.2 e2
    exact ⟨⟨by rw [← t1.2.1, ← t2.2.1, k0.2], by rw [e1, e2], e2⟩, fun j hj => (key j hj).2.symm⟩
theorem join_of {c : Cat} (hS : ShapeP c) {fs : List Int} (hx : AllP c.s.length fs) (hne : fs ≠ []) (he : endsP c.s fs) (h : noB (badJ c fs) c.s.length c.s.length 0) : joinP c fs := fun g x hxg hg =>
  Classical.byContradiction fun hn => h x g (.inl (by omega)) hxg hg ((badJ_iff hS hx hne he (by omega) hg).2 hn)
theorem join_not {c : Cat} (hS : ShapeP c) {fs : List Int} (hx : AllP c.s.length fs) (hne : fs ≠ []) (he : endsP c.s fs) {g h : Nat} (hgh : g < h) (hh : h < c.s.length) (hb : badJ c fs g h) : ¬ joinP c fs := fun hm =>
  (badJ_iff hS hx hne he (by omega) hh).1 hb (hm h g hgh hh)
theorem opp_join {c : Cat} (hS : ShapeP c) {fs : List Int} (hx : AllP c.s.length fs) : joinP (oppM c) fs ↔ jeinP c fs := by
  unfold joinP jeinP
  rw [opp_len hS]
  have hk : ∀ f ∈ fs, ∀ g : Nat, g < c.s.length → bef (oppM c) f g = beh c f g := fun f hf g hg => by
    have := hx f hf
    obtain ⟨a, rfl⟩ := Int.eq_ofNat_of_zero_le this.1
    exact opp_bef (by omega) hg
  exact canc_congr (fun φ h => by obtain ⟨f, hf, rfl⟩ := List.mem_map.1 h; exact ⟨_, List.mem_map.2 ⟨f, hf, rfl⟩, hk f hf⟩) (fun φ h => by obtain ⟨f, hf, rfl⟩ := List.mem_map.1 h; exact ⟨_, List.mem_map.2 ⟨f, hf, rfl⟩, hk f hf⟩)
theorem canc_mem {α : Type} {fs gs : List α} {F : α → Int → Int} {m : Nat} (h : ∀ x, x ∈ fs ↔ x ∈ gs) : cancP (fs.map F) m ↔ cancP (gs.map F) m :=
  canc_congr (fun φ hm => by obtain ⟨f, hf, rfl⟩ := List.mem_map.1 hm; exact ⟨_, List.mem_map.2 ⟨f, (h f).1 hf, rfl⟩, fun _ _ => rfl⟩) (fun φ hm => by obtain ⟨f, hf, rfl⟩ := List.mem_map.1 hm; exact ⟨_, List.mem_map.2 ⟨f, (h f).2 hf, rfl⟩, fun _ _ => rfl⟩)
noncomputable def famErr (es fs : List Int) : Int := if fs = [] then 5 else (if bP (endsP es fs) = true then 0 else 5)
noncomputable def fIsJointlyMono (c : Cat) (fs : List Int) : Bool × Int := if arrErr c fs = 0 then (if famErr c.s fs = 0 then (bP (joinP c fs), 0) else (false, 5)) else (false, arrErr c fs)
noncomputable def fIsJointlyEpi (c : Cat) (fs : List Int) : Bool × Int := if arrErr c fs = 0 then (if famErr c.t fs = 0 then (bP (jeinP c fs), 0) else (false, 5)) else (false, arrErr c fs)

end Go.Proofs.Ytbfenibkbmkcaab
