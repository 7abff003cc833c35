
/- Twisted arrows: what the program builds of the list is what the model makes of it. -/
import Derived.Test.YtelbjdbefaffpaaTwS
set_option linter.unusedSimpArgs false
set_option linter.unusedVariables false
set_option linter.unusedSectionVars false
namespace Go.Proofs.Ytelbjdbefaffpaa
open Go.RowKit


theorem assocI {c : Cat} (hI : IsCat c) {x y z : Int} (x0 : 0 ≤ x) (x1 : x < c.s.length) (y0 : 0 ≤ y) (y1 : y < c.s.length) (z0 : 0 ≤ z) (z1 : z < c.s.length) (h1 : at0 c.t x = at0 c.s y) (h2 : at0 c.t y = at0 c.s z) : c.th (c.th x y) z = c.th x (c.th y z) := by
  obtain ⟨a, rfl⟩ := Int.eq_ofNat_of_zero_le x0
  obtain ⟨b, rfl⟩ := Int.eq_ofNat_of_zero_le y0
  obtain ⟨d, rfl⟩ := Int.eq_ofNat_of_zero_le z0
  have := hI.assoc a b d (by omega) (by omega) (by omega)
  exact Classical.byContradiction fun hn => this ⟨h1, h2, hn⟩
theorem hom_in {c : Cat} {x y z : Int} {n : Nat} (z0 : 0 ≤ z) (z1 : z < n) (hs : at0 c.s z = x) (ht : at0 c.t z = y) : z ∈ homTo c x y n := by
  obtain ⟨k, rfl⟩ := Int.eq_ofNat_of_zero_le z0
  exact mem_homTo.2 ⟨k, by omega, rfl, hs, ht⟩
def uTw (c : Cat) (x : Nat) : Int × Int := (at0 c.e (at0 c.s (x : Int)), at0 c.e (at0 c.t (x : Int)))
def thTw (c : Cat) (f g : Int × Int) : Int × Int := (c.th g.1 f.1, c.th f.2 g.2)
theorem tw_comp {c : Cat} (hI : IsCat c) {a b : Ent (Int × Int)} (ha : TwP c a) (hb : TwP c b) (h : a.2.1 = b.1) : TwP c (a.1, b.2.1, thTw c a.2.2 b.2.2) := by
  obtain ⟨a1, a2, u, v⟩ := a
  obtain ⟨b1, b2, u', v'⟩ := b
  obtain ⟨f, g, hf, hg, e1, e2, hu, hv, ho⟩ := ha
  obtain ⟨g', k, hg', hk, e3, e4, hu', hv', ho'⟩ := hb
  simp only at h e1 e2 e3 e4 hu hv ho hu' hv' ho'
  obtain rfl : g = g' := by omega
  have hS := hI.toShapeP
  obtain ⟨u0, u1, us, ut⟩ := mem_hom2 hu
  obtain ⟨v0, v1, vs, vt⟩ := mem_hom2 hv
  obtain ⟨p0, p1, ps, pt⟩ := mem_hom2 hu'
  obtain ⟨q0, q1, qs, qt⟩ := mem_hom2 hv'
  have f0 : (0 : Int) ≤ f := by omega
  have f1 : (f : Int) < c.s.length := by omega
  have g0 : (0 : Int) ≤ g := by omega
  have g1 : (g : Int) < c.s.length := by omega
  have A := th_ends hS p0 p1 u0 u1 (pt.trans us.symm)
  have B := th_ends hS v0 v1 q0 q1 (vt.trans qs.symm)
  have C := th_ends hS u0 u1 f0 f1 ut
  have D := th_ends hS A.1.1 A.1.2 f0 f1 (A.2.2.trans ut)
  have ho2 : c.th (c.th u (f : Int)) v = (g : Int) := ho
  have ho3 : c.th (c.th u' (g : Int)) v' = (k : Int) := ho'
  refine ⟨f, k, hf, hk, e1, e4, hom_in A.1.1 A.1.2 (A.2.1.trans ps) (A.2.2.trans ut), hom_in B.1.1 B.1.2 (B.2.1.trans vs) (B.2.2.trans qt), ?_⟩
  show c.th (c.th (c.th u' u) (f : Int)) (c.th v v') = (k : Int)
  rw [← assocI hI D.1.1 D.1.2 v0 v1 q0 q1 (D.2.2.trans vs.symm) (vt.trans qs.symm)]
  rw [assocI hI p0 p1 u0 u1 f0 f1 (pt.trans us.symm) ut]
  rw [assocI hI p0 p1 C.1.1 C.1.2 v0 v1 (pt.trans (us.symm.trans C.2.1.symm)) (C.2.2.trans vs.symm), ho2, ho3]
theorem tw_unit {c : Cat} (hI : IsCat c) {x : Nat} (hx : x < c.s.length) : TwP c ((x : Int), (x : Int), uTw c x) := by
  have hS := hI.toShapeP
  have hA := arrP hS (f := (x : Int)) (by omega) (by omega)
  have i1 := hS.idn hA.s0 (by have := hS.el; have := hA.s1; omega)
  have i2 := hS.idn hA.t0 (by have := hS.el; have := hA.t1; omega)
  have hd := hI.idl x hx
  refine ⟨x, x, hx, hx, rfl, rfl, hom_in i1.1 i1.2.1 i1.2.2.1 i1.2.2.2, hom_in i2.1 i2.2.1 i2.2.2.1 i2.2.2.2, ?_⟩
  show c.th (c.th (at0 c.e (at0 c.s (x : Int))) (x : Int)) (at0 c.e (at0 c.t (x : Int))) = (x : Int)
  rw [hd.1, hd.2]
theorem tw_pos {c : Cat} {e : Ent (Int × Int)} (h : TwP c e) : ∃ j : Nat, j < (twE c).length ∧ atE (twE c) (j : Int) = e ∧ posE (twE c) e = j := by
  obtain ⟨j, hj, he⟩ := List.getElem_of_mem (twE_mem.2 h)
  have h2 : atE (twE c) (j : Int) = e := by rw [atE_eq hj, he]
  exact ⟨j, hj, h2, posE_at (twE_nodup c) hj h2⟩
theorem rowTw_inj {a b : Ent (Int × Int)} (h : rowTw a = rowTw b) : a = b := by
  obtain ⟨a1, a2, a3, a4⟩ := a
  obtain ⟨b1, b2, b3, b4⟩ := b
  simp only [rowTw, List.cons.injEq, and_true] at h
  obtain ⟨rfl, rfl, rfl, rfl⟩ := h
  rfl
theorem atE_inj {c : Cat} {i j : Nat} (hi : i < (twE c).length) (hj : j < (twE c).length) (h : atE (twE c) (i : Int) = atE (twE c) (j : Int)) : i = j := by
  rw [atE_eq hi, atE_eq hj] at h
  rcases Nat.lt_trichotomy i j with h1 | h1 | h1
  · exact absurd h (List.pairwise_iff_getElem.1 (twE_nodup c) i j hi hj h1)
  · exact h1
  · exact absurd h.symm (List.pairwise_iff_getElem.1 (twE_nodup c) j i hj hi h1)
theorem lastI_at {L : List (List Int)} {d : List Int} {j : Nat} (h : row2 L (j : Int) = d) : ∀ n, j < n → (∀ k, k < n → row2 L (k : Int) = d → k = j) → lastI L d n = j
  | n + 1, hj, hu => by
    by_cases e : row2 L (n : Int) = d
    · have := hu n (by omega) e
      rw [← lastI_t e, this]
    · rw [← lastI_f e]
      have hne : j ≠ n := fun h2 => e (by rw [← h2]; exact h)
      exact lastI_at h n (by omega) fun k hk => hu k (by omega)
theorem twC_eq {c : Cat} (hI : IsCat c) {i j : Nat} (hi : i < (twE c).length) (hj : j < (twE c).length) : twC c i j = cellE (twE c) (thTw c) (atE (twE c) (i : Int)) (atE (twE c) (j : Int)) := by
  have hl := twR_len c
  have ri := twR_row (c := c) (i := i) (by omega)
  have rj := twR_row (c := c) (i := j) (by omega)
  have a1 : at0 (row2 (twR c) (i : Int)) 1 = (atE (twE c) (i : Int)).2.1 := by rw [ri]; rfl
  have b0 : at0 (row2 (twR c) (j : Int)) 0 = (atE (twE c) (j : Int)).1 := by rw [rj]; rfl
  unfold cellE
  by_cases h : (atE (twE c) (i : Int)).2.1 = (atE (twE c) (j : Int)).1
  · rw [if_pos h, ← twC_t (by rw [a1, b0]; exact h)]
    have hd : dueT c i j = rowTw ((atE (twE c) (i : Int)).1, (atE (twE c) (j : Int)).2.1, thTw c (atE (twE c) (i : Int)).2.2 (atE (twE c) (j : Int)).2.2) := by
      unfold dueT; rw [ri, rj]; rfl
    obtain ⟨k, hk, he, hp⟩ := tw_pos (tw_comp hI (twE_mem.1 (atE_mem hi)) (twE_mem.1 (atE_mem hj)) h)
    rw [hd, hp]
    refine lastI_at (by rw [twR_row (by omega), he]) _ (by omega) fun q hq hr => ?_
    rw [twR_row hq] at hr
    exact atE_inj (by omega) hk ((rowTw_inj hr).trans he.symm)
  · rw [if_neg h, ← twC_f (by rw [a1, b0]; exact h)]
theorem un_iff {c : Cat} (hS : ShapeP c) {i : Nat} (hi : i < (twE c).length) : UnTw c i ↔ ∃ x : Nat, x < c.s.length ∧ atE (twE c) (i : Int) = ((x : Int), (x : Int), uTw c x) := by
  have hl := twR_len c
  have P := twR_P (c := c) (i := i) (by omega)
  have ri := twR_row (c := c) (i := i) (by omega)
  constructor
  · rintro ⟨⟨h1, h2⟩, h3⟩
    obtain ⟨x, hx⟩ := Int.eq_ofNat_of_zero_le P.r0.1
    refine ⟨x, by have := P.r0.2; omega, ?_⟩
    have e0 : at0 (row2 (twR c) (i : Int)) 0 = (atE (twE c) (i : Int)).1 := by rw [ri]; rfl
    have e1 : at0 (row2 (twR c) (i : Int)) 1 = (atE (twE c) (i : Int)).2.1 := by rw [ri]; rfl
    have e2 : at0 (row2 (twR c) (i : Int)) 2 = (atE (twE c) (i : Int)).2.2.1 := by rw [ri]; rfl
    have e3 : at0 (row2 (twR c) (i : Int)) 3 = (atE (twE c) (i : Int)).2.2.2 := by rw [ri]; rfl
    have q2 := P.s2; have q3 := P.s3
    rw [q2, ← h1, hx] at h2
    rw [q3, hx] at h3
    rw [← h1, hx] at e1
    rw [hx] at e0
    rw [← h2] at e2
    rw [← h3] at e3
    generalize atE (twE c) (i : Int) = e at *
    obtain ⟨a, b, u, v⟩ := e
    simp only at e0 e1 e2 e3
    rw [← e0, ← e1, ← e2, ← e3]; rfl
  · rintro ⟨x, hx, he⟩
    have hA := arrP hS (f := (x : Int)) (by omega) (by omega)
    have i1 := hS.idn hA.s0 (by have := hS.el; have := hA.s1; omega)
    have i2 := hS.idn hA.t0 (by have := hS.el; have := hA.t1; omega)
    unfold UnTw
    rw [ri, he]
    refine ⟨⟨rfl, ?_⟩, ?_⟩
    · show at0 c.e (at0 c.s (at0 c.e (at0 c.s (x : Int)))) = at0 c.e (at0 c.s (x : Int))
      rw [i1.2.2.1]
    · show at0 c.e (at0 c.s (at0 c.e (at0 c.t (x : Int)))) = at0 c.e (at0 c.t (x : Int))
      rw [i2.2.2.1]
theorem twI_at {c : Cat} (hI : IsCat c) {x j : Nat} (hx : x < c.s.length) (hj : j < (twE c).length) (he : atE (twE c) (j : Int) = ((x : Int), (x : Int), uTw c x)) : ∀ i, i ≤ (twE c).length → at0 (twI c i) (x : Int) = if j < i then (j : Int) else 0
  | 0, _ => by
    rw [if_neg (by omega), at0_nat, twI, List.getD_eq_getElem?_getD, List.getElem?_replicate]; split <;> rfl
  | i + 1, h => by
    have hl := twR_len c
    have ih := twI_at hI hx hj he i (by omega)
    have hlen := twI_len c i
    by_cases hu : UnTw c i
    · obtain ⟨y, hy, hye⟩ := (un_iff hI.toShapeP (by omega)).1 hu
      have r0 : at0 (row2 (twR c) (i : Int)) 0 = (y : Int) := by rw [twR_row (by omega), hye]; rfl
      rw [← twI_t hu, r0, Int.toNat_natCast, at0_nat, List.getD_eq_getElem?_getD, List.getElem?_set]
      by_cases e : y = x
      · subst e
        have : i = j := atE_inj (by omega) hj (hye.trans he.symm)
        subst this
        rw [if_pos rfl, if_pos (by omega), if_pos (by omega)]; rfl
      · rw [if_neg e, ← List.getD_eq_getElem?_getD, ← at0_nat, ih]
        have hne : i ≠ j := fun h2 => e (by
          subst h2
          have := hye.symm.trans he
          simp only [Prod.mk.injEq] at this; omega)
        by_cases h3 : j < i
        · rw [if_pos h3, if_pos (by omega)]
        · rw [if_neg h3, if_neg (by omega)]
    · rw [← twI_f hu, ih]
      have hne : i ≠ j := fun h2 => hu ((un_iff hI.toShapeP (by omega)).2 ⟨x, hx, by rw [h2]; exact he⟩)
      by_cases h3 : j < i
      · rw [if_pos h3, if_pos (by omega)]
      · rw [if_neg h3, if_neg (by omega)]
theorem ents_self (es : List (Ent (Int × Int))) : entsTo (fun i => atE es (i : Int)) es.length = es := by
  refine List.ext_getElem (by rw [entsTo_len]) fun j h1 h2 => ?_
  have := entsTo_at (fun i => atE es (i : Int)) (k := es.length) (j := j) h2
  rw [atE_eq h2, atE_eq h1] at this
  exact this
theorem tw_build {c : Cat} (hI : IsCat c) (hl40 : (twR c).length ≤ 40) : buildE c.s.length (twE c) (uTw c) (thTw c) = twM c := by
  have hl := twR_len c
  have hrows : (twM c).m = rowsTo (twRow c) (twR c).length := if_pos hl40
  have key := buildE_to (n := (c.s.length : Int)) (φ := fun i => atE (twE c) (i : Int)) (k := (twE c).length) (u := uTw c) (th := thTw c) (c := twM c) rfl
    (by show (tabTo _ _).length = _; rw [tabTo_len]; exact hl) (by show (tabTo _ _).length = _; rw [tabTo_len]; exact hl) (by show (twI c _).length = _; rw [twI_len]; rfl) (by rw [hrows, rowsTo_len]; exact hl)
    (fun i hi => by rw [hrows, rowsTo_at _ (by omega)]; unfold twRow; rw [tabTo_len]; exact hl)
    (fun i hi => by show at0 (tabTo _ _) (i : Int) = _; rw [tabTo_at _ (by omega), twR_row (by omega)]; rfl)
    (fun i hi => by show at0 (tabTo _ _) (i : Int) = _; rw [tabTo_at _ (by omega), twR_row (by omega)]; rfl)
    (fun x hx => by
      have hx2 : x < c.s.length := by simpa using hx
      rw [ents_self]
      obtain ⟨j, hj, he, hp⟩ := tw_pos (tw_unit hI hx2)
      show at0 (twI c (twR c).length) (x : Int) = _
      rw [hp, hl, twI_at hI hx2 hj he _ (Nat.le_refl _), if_pos hj])
    (fun i j hi hj => by
      rw [ents_self, hrows, rowsTo_at _ (by omega)]
      unfold twRow
      rw [tabTo_at _ (by omega)]
      exact twC_eq hI hi hj)
  rw [ents_self] at key
  exact key
noncomputable def fTwistedCategory (c : Cat) : Cat × Int := if fIsCategory c = true then (if bP (FitP (twM c)) = true then (twM c, 0) else (cat0, 3)) else (cat0, 1)
theorem twc_f {c : Cat} (h : fIsCategory c = false) : fTwistedCategory c = (cat0, 1) := if_neg (by rw [h]; decide)
theorem twc_t {c : Cat} (h : fIsCategory c = true) (hf : FitP (twM c)) : fTwistedCategory c = (twM c, 0) := by unfold fTwistedCategory; rw [if_pos h, if_pos (bP_t hf)]
theorem twc_l {c : Cat} (h : fIsCategory c = true) (hf : ¬ FitP (twM c)) : fTwistedCategory c = (cat0, 3) := by unfold fTwistedCategory; rw [if_pos h, if_neg (by rw [bP_f hf]; decide)]
theorem fit_tw (c : Cat) : FitP (twM c) ↔ (c.s.length : Int) ≤ 8 ∧ (twE c).length ≤ 40 := by
  have hl := twR_len c
  have e : (twM c).s.length = (twR c).length := tabTo_len _ _
  unfold FitP
  rw [e, hl]; exact Iff.rfl
theorem tw_made {c : Cat} (h : fIsCategory c = true) : madeE c.s.length (twE c) (uTw c) (thTw c) = (fTwistedCategory c).1 ∧ madeEc c.s.length (twE c) = (fTwistedCategory c).2 := by
  have hl := twR_len c
  by_cases hf : FitP (twM c)
  · have h2 := (fit_tw c).1 hf
    have hm := madeE_t (n := (c.s.length : Int)) (es := twE c) (u := uTw c) (th := thTw c) h2.1 h2.2
    rw [twc_t h hf, hm.1, hm.2, tw_build (isCat_of h) (by omega)]; exact ⟨rfl, rfl⟩
  · have hm := madeE_f (n := (c.s.length : Int)) (es := twE c) (u := uTw c) (th := thTw c) (fun h2 => hf ((fit_tw c).2 h2))
    rw [twc_l h hf, hm.1, hm.2]; exact ⟨rfl, rfl⟩

end Go.Proofs.Ytelbjdbefaffpaa
