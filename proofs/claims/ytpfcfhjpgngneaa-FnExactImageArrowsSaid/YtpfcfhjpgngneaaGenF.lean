
/- What the program has found on the way to the least subcategory. -/
import Derived.Test.YtpfcfhjpgngneaaGenS
set_option linter.unusedSimpArgs false
set_option linter.unusedVariables false
set_option linter.unusedSectionVars false
namespace Go.Proofs.Ytpfcfhjpgngneaa
open Go.RowKit


/-- The marks and the list of what is found. -/
structure GI (c : Cat) (xs : List Int) (bs : List Bool) (fs : List Int) : Prop where
  bl : bs.length = c.s.length
  nd : fs.Nodup
  sn : ∀ x ∈ fs, 0 ≤ x ∧ x < c.s.length ∧ Gen c xs x
  mkk : ∀ x : Int, 0 ≤ x → x < c.s.length → (atB bs x = true ↔ x ∈ fs)
  ln : fs.length + cntF bs = c.s.length
def addB (bs : List Bool) (f : Int) : List Bool := if f ≠ -1 ∧ atB bs f = false then bs.set f.toNat true else bs
def addF (bs : List Bool) (fs : List Int) (f : Int) : List Int := if f ≠ -1 ∧ atB bs f = false then fs ++ [f] else fs
theorem addB_t {bs : List Bool} {f : Int} (h : f ≠ -1) (h2 : atB bs f = false) : addB bs f = bs.set f.toNat true := if_pos ⟨h, h2⟩
theorem addF_t {bs : List Bool} {fs : List Int} {f : Int} (h : f ≠ -1) (h2 : atB bs f = false) : addF bs fs f = fs ++ [f] := if_pos ⟨h, h2⟩
theorem addB_f {bs : List Bool} {f : Int} (h : f = -1 ∨ atB bs f = true) : addB bs f = bs := if_neg fun h2 => h.elim h2.1 fun h => by rw [h] at h2; exact absurd h2.2 (by simp)
theorem addF_f {bs : List Bool} {fs : List Int} {f : Int} (h : f = -1 ∨ atB bs f = true) : addF bs fs f = fs := if_neg fun h2 => h.elim h2.1 fun h => by rw [h] at h2; exact absurd h2.2 (by simp)
theorem gi_zero (c : Cat) (xs : List Int) : GI c xs (List.replicate c.s.length false) [] where
  bl := by simp
  nd := List.nodup_nil
  sn := fun x h => by simp at h
  mkk := fun x x0 x1 => by
    have : atB (List.replicate c.s.length false) x = false := by
      unfold atB; rw [List.getD_eq_getElem?_getD, List.getElem?_replicate]; split <;> rfl
    rw [this]; simp
  ln := by
    have : ∀ n, cntF (List.replicate n false) = n := fun n => by simp [cntF]
    rw [this]; simp
theorem gi_len {c : Cat} {xs : List Int} {bs : List Bool} {fs : List Int} (h : GI c xs bs fs) : fs.length ≤ c.s.length := by have := h.ln; omega
theorem gi_add {c : Cat} {xs : List Int} {bs : List Bool} {fs : List Int} {f : Int} (h : GI c xs bs fs) (hf : f = -1 ∨ (0 ≤ f ∧ f < c.s.length ∧ Gen c xs f)) :
    GI c xs (addB bs f) (addF bs fs f) ∧ (∃ zs, addF bs fs f = fs ++ zs) ∧ (f ≠ -1 → f ∈ addF bs fs f) := by
  by_cases hc : f ≠ -1 ∧ atB bs f = false
  · rcases hf with rfl | ⟨f0, f1, hg⟩
    · exact absurd rfl hc.1
    have hbl := h.bl
    have hn : f ∉ fs := fun hm => by have := (h.mkk f f0 f1).2 hm; rw [hc.2] at this; cases this
    rw [addB_t hc.1 hc.2, addF_t hc.1 hc.2]
    refine ⟨⟨by simp [hbl], ?_, ?_, ?_, ?_⟩, ⟨[f], rfl⟩, fun _ => by simp⟩
    · rw [List.nodup_append]
      refine ⟨h.nd, by simp, fun a ha b hb => ?_⟩
      rw [List.mem_singleton.1 hb]; intro e; subst e; exact hn ha
    · intro x hx
      rcases List.mem_append.1 hx with hx | hx
      · exact h.sn x hx
      · rw [List.mem_singleton.1 hx]; exact ⟨f0, f1, hg⟩
    · intro x x0 x1
      rw [atB_set f0 (by omega) x0, List.mem_append, List.mem_singleton]
      by_cases e : f = x
      · simp [e]
      · rw [if_neg e, h.mkk x x0 x1]; exact ⟨.inl, fun h => h.elim id fun h => absurd h.symm e⟩
    · have h1 := cntF_set (bs := bs) (k := f.toNat) (by omega) (by simpa [atB] using hc.2)
      have h2 := h.ln
      rw [List.length_append, List.length_singleton]; omega
  · have hd : f = -1 ∨ atB bs f = true := by
      by_cases e : f = -1
      · exact .inl e
      · right; cases hb : atB bs f
        · exact absurd ⟨e, hb⟩ hc
        · rfl
    rw [addB_f hd, addF_f hd]
    refine ⟨h, ⟨[], by simp⟩, fun hne => ?_⟩
    rcases hf with rfl | ⟨f0, f1, _⟩
    · exact absurd rfl hne
    exact (h.mkk f f0 f1).1 (hd.elim (fun e => absurd e hne) id)
def SeedF (c : Cat) (xs fs : List Int) (k : Nat) : Prop := ∀ j : Nat, j < k → at0 xs (j : Int) ∈ fs ∧ at0 c.e (at0 c.s (at0 xs (j : Int))) ∈ fs ∧ at0 c.e (at0 c.t (at0 xs (j : Int))) ∈ fs
def PairD (c : Cat) (fs : List Int) (i j : Nat) : Prop := (at0 c.t (at0 fs (i : Int)) = at0 c.s (at0 fs (j : Int)) → c.th (at0 fs (i : Int)) (at0 fs (j : Int)) ∈ fs) ∧ (at0 c.t (at0 fs (j : Int)) = at0 c.s (at0 fs (i : Int)) → c.th (at0 fs (j : Int)) (at0 fs (i : Int)) ∈ fs)
def DoneF (c : Cat) (fs : List Int) (i j : Nat) : Prop := (∀ a b : Nat, a < i → b ≤ a → PairD c fs a b) ∧ ∀ b : Nat, b < j → PairD c fs i b
theorem at0_app {fs zs : List Int} {i : Nat} (h : i < fs.length) : at0 (fs ++ zs) (i : Int) = at0 fs (i : Int) := by
  rw [at0_nat, at0_nat, List.getD_eq_getElem?_getD, List.getD_eq_getElem?_getD, List.getElem?_append_left h]
theorem seedF_mono {c : Cat} {xs fs : List Int} {k : Nat} (zs : List Int) (h : SeedF c xs fs k) : SeedF c xs (fs ++ zs) k := fun j hj =>
  ⟨List.mem_append_left _ (h j hj).1, List.mem_append_left _ (h j hj).2.1, List.mem_append_left _ (h j hj).2.2⟩
theorem pairD_mono {c : Cat} {fs : List Int} {i j : Nat} (zs : List Int) (hi : i < fs.length) (hj : j < fs.length) (h : PairD c fs i j) : PairD c (fs ++ zs) i j := by
  unfold PairD
  rw [at0_app hi, at0_app hj]
  exact ⟨fun e => List.mem_append_left _ (h.1 e), fun e => List.mem_append_left _ (h.2 e)⟩
theorem doneF_mono {c : Cat} {fs : List Int} {i j : Nat} (zs : List Int) (hi : i < fs.length) (hj : j ≤ i + 1) (h : DoneF c fs i j) : DoneF c (fs ++ zs) i j :=
  ⟨fun a b ha hb => pairD_mono zs (by omega) (by omega) (h.1 a b ha hb), fun b hb => pairD_mono zs hi (by omega) (h.2 b hb)⟩
theorem doneF_row {c : Cat} {fs : List Int} {i : Nat} (h : DoneF c fs i (i + 1)) : DoneF c fs (i + 1) 0 :=
  ⟨fun a b ha hb => by
    by_cases e : a = i
    · subst e; exact h.2 b (by omega)
    · exact h.1 a b (by omega) hb, fun b hb => absurd hb (by omega)⟩
theorem doneF_zero (c : Cat) (fs : List Int) : DoneF c fs 0 0 := ⟨fun a b ha => absurd ha (by omega), fun b hb => absurd hb (by omega)⟩
/-- One of the given arrows and its identities are added. -/
theorem seedF_step {c : Cat} {xs fs : List Int} {bs : List Bool} {k : Nat} (hS : ShapeP c) (hx : AllP c.s.length xs) (hk : k < xs.length) (h : GI c xs bs fs) (hs : SeedF c xs fs k) :
    let f := at0 xs (k : Int)
    let b1 := addB bs f; let f1 := addF bs fs f
    let s := at0 c.e (at0 c.s f)
    let b2 := addB b1 s; let f2 := addF b1 f1 s
    let t := at0 c.e (at0 c.t f)
    GI c xs (addB b2 t) (addF b2 f2 t) ∧ SeedF c xs (addF b2 f2 t) (k + 1) := by
  intro f b1 f1 s b2 f2 t
  obtain ⟨p0, p1, s0, s1, t0, t1⟩ := seed_pos hS hx hk
  have hm : f ∈ xs := at0_memC hk
  obtain ⟨g1, ⟨z1, e1⟩, m1⟩ := gi_add (f := f) h (.inr ⟨p0, p1, .of hm⟩)
  obtain ⟨g2, ⟨z2, e2⟩, m2⟩ := gi_add (f := s) g1 (.inr ⟨s0, s1, .src hm⟩)
  obtain ⟨g3, ⟨z3, e3⟩, m3⟩ := gi_add (f := t) g2 (.inr ⟨t0, t1, .tgt hm⟩)
  refine ⟨g3, fun j hj => ?_⟩
  have n1 : f ≠ -1 := (by omega : at0 xs (k : Int) ≠ -1)
  have n2 : s ≠ -1 := (by omega : at0 c.e (at0 c.s (at0 xs (k : Int))) ≠ -1)
  have n3 : t ≠ -1 := (by omega : at0 c.e (at0 c.t (at0 xs (k : Int))) ≠ -1)
  by_cases e : j = k
  · subst e
    refine ⟨?_, ?_, m3 n3⟩
    · show f ∈ _
      have q : f ∈ f1 := m1 n1
      have q2 : f ∈ f2 := by show f ∈ addF b1 (addF bs fs f) s; rw [e2]; exact List.mem_append_left _ q
      show f ∈ addF b2 (addF b1 (addF bs fs f) s) t
      rw [e3]; exact List.mem_append_left _ q2
    · show s ∈ _
      have q2 : s ∈ f2 := m2 n2
      show s ∈ addF b2 (addF b1 (addF bs fs f) s) t
      rw [e3]; exact List.mem_append_left _ q2
  · have := hs j (by omega)
    have e4 : addF b2 f2 t = fs ++ (z1 ++ z2 ++ z3) := by
      show addF b2 (addF b1 (addF bs fs f) s) t = _
      rw [e3, e2, e1]; simp
    rw [e4]
    exact ⟨List.mem_append_left _ this.1, List.mem_append_left _ this.2.1, List.mem_append_left _ this.2.2⟩
theorem th_ok {c : Cat} {xs : List Int} {f g : Int} (hS : ShapeP c) (f0 : 0 ≤ f) (f1 : f < c.s.length) (g0 : 0 ≤ g) (g1 : g < c.s.length) (hf : Gen c xs f) (hg : Gen c xs g) :
    (c.th f g = -1 ∨ (0 ≤ c.th f g ∧ c.th f g < c.s.length ∧ Gen c xs (c.th f g))) ∧ (at0 c.t f = at0 c.s g → c.th f g ≠ -1) := by
  by_cases he : at0 c.t f = at0 c.s g
  · have ht := (th_ends hS f0 f1 g0 g1 he).1
    exact ⟨.inr ⟨ht.1, ht.2, .comp hf hg he⟩, fun _ => by have := ht.1; omega⟩
  · obtain ⟨a, rfl⟩ := Int.eq_ofNat_of_zero_le f0
    obtain ⟨b, rfl⟩ := Int.eq_ofNat_of_zero_le g0
    exact ⟨.inl ((hS.co a b (by omega) (by omega)).2 he), fun h => absurd h he⟩
/-- Two of the arrows found are composed in both orders. -/
theorem doneF_step {c : Cat} {xs fs : List Int} {bs : List Bool} {i j : Nat} (hS : ShapeP c) (hi : i < fs.length) (hj : j ≤ i) (h : GI c xs bs fs) (hs : SeedF c xs fs xs.length) (hd : DoneF c fs i j) :
    let v := c.th (at0 fs (i : Int)) (at0 fs (j : Int))
    let b1 := addB bs v; let f1 := addF bs fs v
    let u := c.th (at0 f1 (j : Int)) (at0 f1 (i : Int))
    GI c xs b1 f1 ∧ fs.length ≤ f1.length ∧ fs.length ≤ (addF b1 f1 u).length ∧ GI c xs (addB b1 u) (addF b1 f1 u) ∧ SeedF c xs (addF b1 f1 u) xs.length ∧ DoneF c (addF b1 f1 u) i (j + 1) := by
  intro v b1 f1 u
  have hia : at0 fs (i : Int) ∈ fs := at0_memC hi
  have hja : at0 fs (j : Int) ∈ fs := at0_memC (by omega)
  obtain ⟨i0, i1, ig⟩ := h.sn _ hia
  obtain ⟨j0, j1, jg⟩ := h.sn _ hja
  obtain ⟨hv, hv2⟩ := th_ok hS i0 i1 j0 j1 ig jg
  obtain ⟨hu, hu2⟩ := th_ok hS j0 j1 i0 i1 jg ig
  obtain ⟨g1, ⟨z1, e1⟩, m1⟩ := gi_add (f := v) h hv
  have k1 : at0 f1 (i : Int) = at0 fs (i : Int) := by show at0 (addF bs fs v) _ = _; rw [e1, at0_app hi]
  have k2 : at0 f1 (j : Int) = at0 fs (j : Int) := by show at0 (addF bs fs v) _ = _; rw [e1, at0_app (by omega)]
  have hue : u = c.th (at0 fs (j : Int)) (at0 fs (i : Int)) := by show c.th (at0 f1 (j : Int)) (at0 f1 (i : Int)) = _; rw [k1, k2]
  rw [← hue] at hu hu2
  obtain ⟨g2, ⟨z2, e2⟩, m2⟩ := gi_add (f := u) g1 hu
  have e3 : addF b1 f1 u = fs ++ (z1 ++ z2) := by show addF b1 (addF bs fs v) u = _; rw [e2, e1]; simp
  have l1 : fs.length ≤ f1.length := by show _ ≤ (addF bs fs v).length; rw [e1]; simp
  have l2 : fs.length ≤ (addF b1 f1 u).length := by rw [e3]; simp
  refine ⟨g1, l1, l2, g2, by rw [e3]; exact seedF_mono _ hs, ?_⟩
  have hd2 := doneF_mono (z1 ++ z2) hi (by omega) hd
  refine ⟨by rw [e3]; exact hd2.1, fun b hb => ?_⟩
  by_cases e : b = j
  · subst e
    have q1 : at0 (addF b1 f1 u) (i : Int) = at0 fs (i : Int) := by rw [e3, at0_app hi]
    have q2 : at0 (addF b1 f1 u) (b : Int) = at0 fs (b : Int) := by rw [e3, at0_app (by omega)]
    unfold PairD
    rw [q1, q2]
    refine ⟨fun he => ?_, fun he => ?_⟩
    · have : v ∈ addF bs fs v := m1 (hv2 he)
      show v ∈ addF b1 (addF bs fs v) u
      rw [e2]; exact List.mem_append_left _ this
    · have := m2 (hu2 he)
      rw [← hue]; exact this
  · rw [e3]; exact hd2.2 b (by omega)
theorem gi_all {c : Cat} {xs fs : List Int} {bs : List Bool} (hS : ShapeP c) (hx : AllP c.s.length xs) (h : GI c xs bs fs) (hs : SeedF c xs fs xs.length) (hd : DoneF c fs fs.length 0) : ∀ x, Gen c xs x → x ∈ fs := by
  intro x hg
  induction hg with
  | of hm => obtain ⟨j, hj, rfl⟩ := mem_at0C hm; exact (hs j hj).1
  | src hm => obtain ⟨j, hj, rfl⟩ := mem_at0C hm; exact (hs j hj).2.1
  | tgt hm => obtain ⟨j, hj, rfl⟩ := mem_at0C hm; exact (hs j hj).2.2
  | comp _ _ he ih1 ih2 =>
    obtain ⟨a, ha, rfl⟩ := mem_at0C ih1
    obtain ⟨b, hb, rfl⟩ := mem_at0C ih2
    rcases Nat.le_total b a with hab | hab
    · exact (hd.1 a b ha hab).1 he
    · exact (hd.1 b a hb hab).2 he
theorem gi_sorted {c : Cat} {xs fs : List Int} {bs : List Bool} (hS : ShapeP c) (hx : AllP c.s.length xs) (h : GI c xs bs fs) (hs : SeedF c xs fs xs.length) (hd : DoneF c fs fs.length 0) : (fs.mergeSort fun x y => decide (x ≤ y)) = genL c xs c.s.length := by
  refine genL_of (found := fs) (List.mergeSort_perm ..) ?_ h.nd fun x => ⟨fun hm => ⟨(h.sn x hm).2.2, (h.sn x hm).1, (h.sn x hm).2.1⟩, fun hg => gi_all hS hx h hs hd x hg.1⟩
  have := List.pairwise_mergeSort (le := fun x y : Int => decide (x ≤ y)) (fun a b c h1 h2 => by simp at *; omega) (fun a b => by simp; omega) fs
  exact this.imp (by simp)

end Go.Proofs.Ytpfcfhjpgngneaa
