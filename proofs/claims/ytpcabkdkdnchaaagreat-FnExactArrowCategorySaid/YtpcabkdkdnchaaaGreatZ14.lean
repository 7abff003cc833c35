import Derived.Test.YtpcabkdkdnchaaaGreatZ11
import Derived.Test.YtpcabkdkdnchaaaGreatZ13
import Derived.Test.YtpcabkdkdnchaaaGreatZ6
import Derived.Test.YtpcabkdkdnchaaaGreatZ10
set_option linter.unusedSimpArgs false
set_option linter.unusedVariables false
set_option linter.unusedSectionVars false
namespace Go.Proofs.YtpcabkdkdnchaaaGreat
open Go.RowKit
theorem cm_range {β : Type} {f : Nat → List β} {z : List β} {k : Nat} (hz : z <+: f k) : ∀ {n : Nat}, k < n → ((List.range k).flatMap f ++ z) <+: (List.range n).flatMap f
  | 0, h => absurd h (by omega)
  | n + 1, h => by
    rw [List.range_succ, List.flatMap_append, List.flatMap_singleton]
    rcases Nat.lt_or_ge k n with h1 | h1
    · exact (cm_range hz h1).trans (List.prefix_append ..)
    · obtain rfl : k = n := by omega
      exact (List.prefix_append_right_inj _).2 hz
theorem cm_rangeS {β : Type} (f : Nat → List β) (k : Nat) : (List.range (k + 1)).flatMap f = (List.range k).flatMap f ++ f k := by
  rw [List.range_succ, List.flatMap_append, List.flatMap_singleton]
theorem cm_take {xs : List Int} {i : Nat} (h : i < xs.length) : xs.take (i + 1) = xs.take i ++ [at0 xs (i : Int)] := by
  rw [List.take_succ_eq_append_getElem h]
  show xs.take i ++ [xs[i]] = xs.take i ++ [xs.getD (i : Int).toNat 0]
  rw [Int.toNat_natCast, List.getD_eq_getElem?_getD, List.getElem?_eq_getElem h]; rfl
theorem cm_takeS {β : Type} (f : Int → List β) {xs : List Int} {i : Nat} (h : i < xs.length) : (xs.take (i + 1)).flatMap f = (xs.take i).flatMap f ++ f (at0 xs (i : Int)) := by
  rw [cm_take h, List.flatMap_append, List.flatMap_singleton]
theorem cm_flat {β : Type} {f : Int → List β} {xs : List Int} {i : Nat} {z : List β} (h : i < xs.length) (hz : z <+: f (at0 xs (i : Int))) : ((xs.take i).flatMap f ++ z) <+: xs.flatMap f := by
  refine List.IsPrefix.trans ((List.prefix_append_right_inj _).2 hz) ?_
  rw [← cm_takeS f h]
  have : xs.flatMap f = (xs.take (i + 1)).flatMap f ++ (xs.drop (i + 1)).flatMap f := by rw [← List.flatMap_append, List.take_append_drop]
  rw [this]; exact List.prefix_append ..
theorem cm_map {β : Type} {g : Int → β} {xs : List Int} {i : Nat} (h : i < xs.length) : ((xs.take i).map g ++ [g (at0 xs (i : Int))]) <+: xs.map g := by
  have h1 : (xs.take i).map g ++ [g (at0 xs (i : Int))] = (xs.take (i + 1)).map g := by rw [cm_take h, List.map_append]; rfl
  rw [h1]
  have : xs.map g = (xs.take (i + 1)).map g ++ (xs.drop (i + 1)).map g := by rw [← List.map_append, List.take_append_drop]
  rw [this]; exact List.prefix_append ..
theorem cm_mapS {β : Type} (g : Int → β) {xs : List Int} {i : Nat} (h : i < xs.length) : (xs.take i).map g ++ [g (at0 xs (i : Int))] = (xs.take (i + 1)).map g := by rw [cm_take h, List.map_append]; rfl
theorem cm_filT {β : Type} {g : Int → β} {p : Int → Bool} {xs : List Int} {i : Nat} (h : i < xs.length) (hp : p (at0 xs (i : Int)) = true) : ((xs.take i).filter p).map g ++ [g (at0 xs (i : Int))] = ((xs.take (i + 1)).filter p).map g := by
  rw [cm_take h, List.filter_append, List.map_append, List.filter_cons_of_pos hp]; rfl
theorem cm_filF {β : Type} {g : Int → β} {p : Int → Bool} {xs : List Int} {i : Nat} (h : i < xs.length) (hp : p (at0 xs (i : Int)) = false) : ((xs.take i).filter p).map g = ((xs.take (i + 1)).filter p).map g := by
  rw [cm_take h, List.filter_append, List.map_append, List.filter_cons_of_neg (by rw [hp]; decide), List.filter_nil, List.map_nil, List.append_nil]
theorem cm_fil {β : Type} {g : Int → β} {p : Int → Bool} {xs : List Int} (i : Nat) : ((xs.take i).filter p).map g <+: (xs.filter p).map g := by
  have : (xs.filter p).map g = ((xs.take i).filter p).map g ++ ((xs.drop i).filter p).map g := by rw [← List.map_append, ← List.filter_append, List.take_append_drop]
  rw [this]; exact List.prefix_append ..
theorem cm_nodup {α β : Type} {f : α → List β} : ∀ {xs : List α}, xs.Nodup → (∀ x ∈ xs, (f x).Nodup) → (∀ x ∈ xs, ∀ y ∈ xs, ∀ z, z ∈ f x → z ∈ f y → x = y) → (xs.flatMap f).Nodup
  | [], _, _, _ => by simp
  | a :: xs, h, h1, h2 => by
    rw [List.flatMap_cons]
    have h := List.nodup_cons.1 h
    refine List.nodup_append.2 ⟨h1 a (List.mem_cons_self ..), cm_nodup h.2 (fun x hx => h1 x (List.mem_cons_of_mem _ hx)) (fun x hx y hy => h2 x (List.mem_cons_of_mem _ hx) y (List.mem_cons_of_mem _ hy)), fun z hz w hw e => ?_⟩
    subst e
    obtain ⟨y, hy, hzy⟩ := List.mem_flatMap.1 hw
    have := h2 a (List.mem_cons_self ..) y (List.mem_cons_of_mem _ hy) z hz hzy
    subst this
    exact h.1 hy
theorem cm_hom1 (c : Cat) (x y : Int) (k : Nat) : (homTo c x y k).Nodup := by
  unfold homTo
  refine List.Pairwise.map _ ?_ (List.Pairwise.filter _ (List.nodup_range (n := k)))
  intro a b h e; exact h (by omega)
def obH (F G : Fct) (a b : Nat) : List (Ent Int) := (homTo F.T (at0 F.o (a : Int)) (at0 G.o (b : Int)) F.T.s.length).map fun h => ((a : Int), (b : Int), h)
def obR (F G : Fct) (a : Nat) : List (Ent Int) := (List.range G.o.length).flatMap (obH F G a)
def obL (F G : Fct) : List (Ent Int) := (List.range F.o.length).flatMap (obR F G)
def obU (F G : Fct) (a b i : Nat) : List (Ent Int) := (List.range a).flatMap (obR F G) ++ ((List.range b).flatMap (obH F G a) ++ ((homTo F.T (at0 F.o (a : Int)) (at0 G.o (b : Int)) F.T.s.length).take i).map fun h => ((a : Int), (b : Int), h))
theorem obU_pre {F G : Fct} {a b i : Nat} (ha : a < F.o.length) (hb : b < G.o.length) (hi : i < (homTo F.T (at0 F.o (a : Int)) (at0 G.o (b : Int)) F.T.s.length).length) :
    (obU F G a b i ++ [((a : Int), (b : Int), at0 (homTo F.T (at0 F.o (a : Int)) (at0 G.o (b : Int)) F.T.s.length) (i : Int))]) <+: obL F G := by
  unfold obU; rw [List.append_assoc, List.append_assoc]
  exact cm_range (cm_range (cm_map (g := fun h => ((a : Int), (b : Int), h)) hi) hb) ha
theorem obU_succ {F G : Fct} {a b i : Nat} (hi : i < (homTo F.T (at0 F.o (a : Int)) (at0 G.o (b : Int)) F.T.s.length).length) : obU F G a b i ++ [((a : Int), (b : Int), at0 (homTo F.T (at0 F.o (a : Int)) (at0 G.o (b : Int)) F.T.s.length) (i : Int))] = obU F G a b (i + 1) := by
  unfold obU; rw [List.append_assoc, List.append_assoc, cm_mapS (fun h => ((a : Int), (b : Int), h)) hi]
theorem obU_b {F G : Fct} {a b : Nat} : obU F G a b (homTo F.T (at0 F.o (a : Int)) (at0 G.o (b : Int)) F.T.s.length).length = obU F G a (b + 1) 0 := by
  unfold obU; rw [List.take_length, cm_rangeS, List.take_zero, List.map_nil, List.append_nil]; rfl
theorem obU_a {F G : Fct} {a : Nat} : obU F G a G.o.length 0 = obU F G (a + 1) 0 0 := by
  unfold obU; rw [cm_rangeS, List.take_zero, List.map_nil, List.append_nil, List.take_zero, List.map_nil, List.append_nil, List.range_zero, List.flatMap_nil, List.append_nil]; rfl
theorem obU_0 {F G : Fct} : obU F G 0 0 0 = [] := by simp [obU]
theorem obU_end {F G : Fct} : obU F G F.o.length 0 0 = obL F G := by simp [obU, obL]
theorem obL_mem {F G : Fct} {x : Ent Int} : x ∈ obL F G ↔ (0 ≤ x.1 ∧ x.1 < F.o.length) ∧ (0 ≤ x.2.1 ∧ x.2.1 < G.o.length) ∧ (0 ≤ x.2.2 ∧ x.2.2 < F.T.s.length) ∧ at0 F.T.s x.2.2 = at0 F.o x.1 ∧ at0 F.T.t x.2.2 = at0 G.o x.2.1 := by
  obtain ⟨a, b, h⟩ := x
  simp only [obL, obR, obH, List.mem_flatMap, List.mem_range, List.mem_map, Prod.mk.injEq, mem_homTo]
  constructor
  · rintro ⟨a', ha, b', hb, h', ⟨j, hj, rfl, e1, e2⟩, rfl, rfl, rfl⟩
    exact ⟨⟨by omega, by omega⟩, ⟨by omega, by omega⟩, ⟨by omega, by omega⟩, e1, e2⟩
  · rintro ⟨⟨a0, a1⟩, ⟨b0, b1⟩, ⟨h0, h1⟩, e1, e2⟩
    obtain ⟨a', rfl⟩ := Int.eq_ofNat_of_zero_le a0
    obtain ⟨b', rfl⟩ := Int.eq_ofNat_of_zero_le b0
    obtain ⟨j, rfl⟩ := Int.eq_ofNat_of_zero_le h0
    exact ⟨a', by omega, b', by omega, _, ⟨j, by omega, rfl, e1, e2⟩, rfl, rfl, rfl⟩
theorem cm_flen {β : Type} {f : Nat → List β} {m : Nat} (h : ∀ i, (f i).length ≤ m) : ∀ k : Nat, ((List.range k).flatMap f).length ≤ k * m
  | 0 => by simp
  | k + 1 => by rw [cm_rangeS, List.length_append, Nat.succ_mul]; have := cm_flen h k; have := h k; omega
theorem cm_flenT {β : Type} {f : Int → List β} {m : Nat} (h : ∀ i, (f i).length ≤ m) : ∀ xs : List Int, (xs.flatMap f).length ≤ xs.length * m
  | [] => by simp
  | x :: xs => by rw [List.flatMap_cons, List.length_append, List.length_cons, Nat.succ_mul]; have := cm_flenT h xs; have := h x; omega
theorem obL_len {F G : Fct} (hf : F.o.length ≤ 8) (hg : G.o.length ≤ 8) (ht : F.T.s.length ≤ 40) : (obL F G).length ≤ 2560 := by
  have h1 : ∀ a b, (obH F G a b).length ≤ 40 := fun a b => by unfold obH; rw [List.length_map]; have := homTo_len F.T (at0 F.o (a : Int)) (at0 G.o (b : Int)) F.T.s.length; omega
  have h2 : ∀ a, (obR F G a).length ≤ 320 := fun a => by have := cm_flen (h1 a) G.o.length; unfold obR; omega
  have := cm_flen h2 F.o.length; unfold obL; omega
noncomputable def cmB (F G : Fct) (h k u v : Int) : Bool := bP (F.T.th (at0 F.a u) k = F.T.th h (at0 G.a v))
noncomputable def paU (F G : Fct) (x y : Ent Int) (u : Int) : List (Int × Int) := ((homTo G.S x.2.1 y.2.1 G.S.s.length).filter (cmB F G x.2.2 y.2.2 u)).map fun v => (u, v)
noncomputable def paL (F G : Fct) (x y : Ent Int) : List (Int × Int) := (homTo F.S x.1 y.1 F.S.s.length).flatMap (paU F G x y)
noncomputable def paI (F G : Fct) (x y : Ent Int) (i j : Nat) : List (Int × Int) := ((homTo F.S x.1 y.1 F.S.s.length).take i).flatMap (paU F G x y) ++ (((homTo G.S x.2.1 y.2.1 G.S.s.length).take j).filter (cmB F G x.2.2 y.2.2 (at0 (homTo F.S x.1 y.1 F.S.s.length) (i : Int)))).map fun v => (at0 (homTo F.S x.1 y.1 F.S.s.length) (i : Int), v)
theorem paI_t {F G : Fct} {x y : Ent Int} {i j : Nat} (hj : j < (homTo G.S x.2.1 y.2.1 G.S.s.length).length) (h : cmB F G x.2.2 y.2.2 (at0 (homTo F.S x.1 y.1 F.S.s.length) (i : Int)) (at0 (homTo G.S x.2.1 y.2.1 G.S.s.length) (j : Int)) = true) :
    paI F G x y i j ++ [(at0 (homTo F.S x.1 y.1 F.S.s.length) (i : Int), at0 (homTo G.S x.2.1 y.2.1 G.S.s.length) (j : Int))] = paI F G x y i (j + 1) := by
  unfold paI; rw [List.append_assoc, cm_filT (g := fun v => (at0 (homTo F.S x.1 y.1 F.S.s.length) (i : Int), v)) hj h]
theorem paI_f {F G : Fct} {x y : Ent Int} {i j : Nat} (hj : j < (homTo G.S x.2.1 y.2.1 G.S.s.length).length) (h : cmB F G x.2.2 y.2.2 (at0 (homTo F.S x.1 y.1 F.S.s.length) (i : Int)) (at0 (homTo G.S x.2.1 y.2.1 G.S.s.length) (j : Int)) = false) : paI F G x y i j = paI F G x y i (j + 1) := by
  unfold paI; rw [cm_filF (g := fun v => (at0 (homTo F.S x.1 y.1 F.S.s.length) (i : Int), v)) hj h]
theorem paI_i {F G : Fct} {x y : Ent Int} {i : Nat} (hi : i < (homTo F.S x.1 y.1 F.S.s.length).length) : paI F G x y i (homTo G.S x.2.1 y.2.1 G.S.s.length).length = paI F G x y (i + 1) 0 := by
  unfold paI; rw [List.take_length, cm_takeS _ hi, List.take_zero, List.filter_nil, List.map_nil, List.append_nil]; rfl
theorem paI_0 {F G : Fct} {x y : Ent Int} : paI F G x y 0 0 = [] := by simp [paI]
theorem paI_end {F G : Fct} {x y : Ent Int} : paI F G x y (homTo F.S x.1 y.1 F.S.s.length).length 0 = paL F G x y := by simp [paI, paL]
theorem paI_pre {F G : Fct} {x y : Ent Int} {i j : Nat} (hi : i < (homTo F.S x.1 y.1 F.S.s.length).length) : paI F G x y i j <+: paL F G x y := by
  unfold paI paL
  exact cm_flat hi (cm_fil (g := fun v => (at0 (homTo F.S x.1 y.1 F.S.s.length) (i : Int), v)) (p := cmB F G x.2.2 y.2.2 (at0 (homTo F.S x.1 y.1 F.S.s.length) (i : Int))) j)
theorem paL_mem {F G : Fct} {x y : Ent Int} {p : Int × Int} : p ∈ paL F G x y ↔ ((0 ≤ p.1 ∧ p.1 < F.S.s.length) ∧ at0 F.S.s p.1 = x.1 ∧ at0 F.S.t p.1 = y.1) ∧ ((0 ≤ p.2 ∧ p.2 < G.S.s.length) ∧ at0 G.S.s p.2 = x.2.1 ∧ at0 G.S.t p.2 = y.2.1) ∧ F.T.th (at0 F.a p.1) y.2.2 = F.T.th x.2.2 (at0 G.a p.2) := by
  obtain ⟨u, v⟩ := p
  simp only [paL, paU, List.mem_flatMap, List.mem_map, List.mem_filter, Prod.mk.injEq, mem_homTo, cmB, bP_iff]
  constructor
  · rintro ⟨u', ⟨i, hi, rfl, a1, a2⟩, v', ⟨⟨j, hj, rfl, b1, b2⟩, hc⟩, rfl, rfl⟩
    exact ⟨⟨⟨by omega, by omega⟩, a1, a2⟩, ⟨⟨by omega, by omega⟩, b1, b2⟩, hc⟩
  · rintro ⟨⟨⟨u0, u1⟩, a1, a2⟩, ⟨⟨v0, v1⟩, b1, b2⟩, hc⟩
    obtain ⟨i, rfl⟩ := Int.eq_ofNat_of_zero_le u0
    obtain ⟨j, rfl⟩ := Int.eq_ofNat_of_zero_le v0
    exact ⟨_, ⟨i, by omega, rfl, a1, a2⟩, _, ⟨⟨j, by omega, rfl, b1, b2⟩, hc⟩, rfl, rfl⟩
theorem paL_len {F G : Fct} (x y : Ent Int) (hf : F.S.s.length ≤ 40) (hg : G.S.s.length ≤ 40) : (paL F G x y).length ≤ 1600 := by
  have h1 : ∀ u, (paU F G x y u).length ≤ 40 := fun u => by
    unfold paU; rw [List.length_map]
    have := List.length_filter_le (cmB F G x.2.2 y.2.2 u) (homTo G.S x.2.1 y.2.1 G.S.s.length)
    have := homTo_len G.S x.2.1 y.2.1 G.S.s.length; omega
  have h2 := cm_flenT h1 (homTo F.S x.1 y.1 F.S.s.length)
  have h3 := homTo_len F.S x.1 y.1 F.S.s.length
  have : (homTo F.S x.1 y.1 F.S.s.length).length * 40 ≤ 40 * 40 := Nat.mul_le_mul_right _ (by omega)
  unfold paL; omega
noncomputable def arT (F G : Fct) (os : List (Ent Int)) (s t : Nat) : List (Ent (Int × Int)) := (paL F G (atE os (s : Int)) (atE os (t : Int))).map fun p => ((s : Int), (t : Int), p)
noncomputable def arS (F G : Fct) (os : List (Ent Int)) (s : Nat) : List (Ent (Int × Int)) := (List.range os.length).flatMap (arT F G os s)
noncomputable def arL (F G : Fct) (os : List (Ent Int)) : List (Ent (Int × Int)) := (List.range os.length).flatMap (arS F G os)
noncomputable def arU (F G : Fct) (os : List (Ent Int)) (s t : Nat) (ps : List (Int × Int)) : List (Ent (Int × Int)) := (List.range s).flatMap (arS F G os) ++ ((List.range t).flatMap (arT F G os s) ++ ps.map fun p => ((s : Int), (t : Int), p))
theorem arU_pre {F G : Fct} {os : List (Ent Int)} {s t : Nat} {ps : List (Int × Int)} (hs : s < os.length) (ht : t < os.length) (hp : ps <+: paL F G (atE os (s : Int)) (atE os (t : Int))) : arU F G os s t ps <+: arL F G os := by
  unfold arU
  exact cm_range (cm_range (List.IsPrefix.map _ hp) ht) hs
theorem arU_snoc {F G : Fct} {os : List (Ent Int)} {s t : Nat} {ps : List (Int × Int)} {p : Int × Int} : arU F G os s t ps ++ [((s : Int), (t : Int), p)] = arU F G os s t (ps ++ [p]) := by
  unfold arU; rw [List.append_assoc, List.append_assoc, List.map_append]; rfl
theorem arU_t {F G : Fct} {os : List (Ent Int)} {s t : Nat} : arU F G os s t (paL F G (atE os (s : Int)) (atE os (t : Int))) = arU F G os s (t + 1) [] := by
  unfold arU; rw [cm_rangeS, List.map_nil, List.append_nil]; rfl
theorem arU_s {F G : Fct} {os : List (Ent Int)} {s : Nat} : arU F G os s os.length [] = arU F G os (s + 1) 0 [] := by
  unfold arU; rw [cm_rangeS]; simp [arS]
theorem arU_0 {F G : Fct} {os : List (Ent Int)} : arU F G os 0 0 [] = [] := by simp [arU]
theorem arU_end {F G : Fct} {os : List (Ent Int)} : arU F G os os.length 0 [] = arL F G os := by simp [arU, arL]
theorem arL_mem {F G : Fct} {os : List (Ent Int)} {e : Ent (Int × Int)} : e ∈ arL F G os ↔ (0 ≤ e.1 ∧ e.1 < os.length) ∧ (0 ≤ e.2.1 ∧ e.2.1 < os.length) ∧ e.2.2 ∈ paL F G (atE os e.1) (atE os e.2.1) := by
  obtain ⟨s, t, p⟩ := e
  simp only [arL, arS, arT, List.mem_flatMap, List.mem_range, List.mem_map, Prod.mk.injEq]
  constructor
  · rintro ⟨s', hs, t', ht, p', hp, rfl, rfl, rfl⟩
    exact ⟨⟨by omega, by omega⟩, ⟨by omega, by omega⟩, hp⟩
  · rintro ⟨⟨s0, s1⟩, ⟨t0, t1⟩, hp⟩
    obtain ⟨s', rfl⟩ := Int.eq_ofNat_of_zero_le s0
    obtain ⟨t', rfl⟩ := Int.eq_ofNat_of_zero_le t0
    exact ⟨s', by omega, t', by omega, p, hp, rfl, rfl, rfl⟩
theorem paL_nodup (F G : Fct) (x y : Ent Int) : (paL F G x y).Nodup := by
  unfold paL
  refine cm_nodup (cm_hom1 ..) (fun u _ => ?_) (fun u _ v _ z hz hw => ?_)
  · unfold paU
    refine List.Pairwise.map _ ?_ (List.Pairwise.filter _ (cm_hom1 ..))
    intro a b h e; exact h (Prod.mk.inj e).2
  · unfold paU at hz hw
    obtain ⟨_, _, rfl⟩ := List.mem_map.1 hz
    obtain ⟨_, _, e⟩ := List.mem_map.1 hw
    exact (Prod.mk.inj e).1.symm
theorem arL_nodup (F G : Fct) (os : List (Ent Int)) : (arL F G os).Nodup := by
  unfold arL
  refine cm_nodup List.nodup_range (fun s _ => ?_) (fun s _ s' _ z hz hw => ?_)
  · unfold arS
    refine cm_nodup List.nodup_range (fun t _ => ?_) (fun t _ t' _ z hz hw => ?_)
    · unfold arT
      refine List.Pairwise.map _ ?_ (paL_nodup ..)
      intro a b h e; exact h (Prod.mk.inj (Prod.mk.inj e).2).2
    · unfold arT at hz hw
      obtain ⟨_, _, rfl⟩ := List.mem_map.1 hz
      obtain ⟨_, _, e⟩ := List.mem_map.1 hw
      have := (Prod.mk.inj (Prod.mk.inj e).2).1; omega
  · unfold arS arT at hz hw
    obtain ⟨_, _, hz⟩ := List.mem_flatMap.1 hz
    obtain ⟨_, _, hw⟩ := List.mem_flatMap.1 hw
    obtain ⟨_, _, rfl⟩ := List.mem_map.1 hz
    obtain ⟨_, _, e⟩ := List.mem_map.1 hw
    have := (Prod.mk.inj e).1; omega
theorem arL_len {F G : Fct} {os : List (Ent Int)} {m : Nat} (ho : os.length ≤ m) (hf : F.S.s.length ≤ 40) (hg : G.S.s.length ≤ 40) : (arL F G os).length ≤ m * (m * 1600) := by
  have h1 : ∀ s t, (arT F G os s t).length ≤ 1600 := fun s t => by unfold arT; rw [List.length_map]; exact paL_len _ _ hf hg
  have h2 : ∀ s, (arS F G os s).length ≤ m * 1600 := fun s => Nat.le_trans (cm_flen (h1 s) os.length) (Nat.mul_le_mul_right 1600 ho)
  exact Nat.le_trans (cm_flen h2 os.length) (Nat.mul_le_mul_right (m * 1600) ho)
theorem cm_as {c : Cat} (hC : IsCat c) {f g h : Int} (f0 : 0 ≤ f) (f1 : f < c.s.length) (g0 : 0 ≤ g) (g1 : g < c.s.length) (h0 : 0 ≤ h) (h1 : h < c.s.length) (e1 : at0 c.t f = at0 c.s g) (e2 : at0 c.t g = at0 c.s h) : c.th (c.th f g) h = c.th f (c.th g h) := by
  obtain ⟨a, rfl⟩ := Int.eq_ofNat_of_zero_le f0
  obtain ⟨b, rfl⟩ := Int.eq_ofNat_of_zero_le g0
  obtain ⟨d, rfl⟩ := Int.eq_ofNat_of_zero_le h0
  exact Classical.not_not.1 fun hn => hC.assoc a b d (by omega) (by omega) (by omega) ⟨e1, e2, hn⟩
theorem cm_id {c : Cat} (hC : IsCat c) {f : Int} (f0 : 0 ≤ f) (f1 : f < c.s.length) : c.th (at0 c.e (at0 c.s f)) f = f ∧ c.th f (at0 c.e (at0 c.t f)) = f := by
  obtain ⟨a, rfl⟩ := Int.eq_ofNat_of_zero_le f0
  exact hC.idl a (by omega)
structure CspP (F G : Fct) : Prop where
  f : IsFct F
  g : IsFct G
  t : F.T = G.T
theorem fct_co {F : Fct} (h : IsFct F) {f g : Int} (f0 : 0 ≤ f) (f1 : f < F.S.s.length) (g0 : 0 ≤ g) (g1 : g < F.S.s.length) (e : at0 F.S.t f = at0 F.S.s g) : at0 F.a (F.S.th f g) = F.T.th (at0 F.a f) (at0 F.a g) := by
  obtain ⟨a, rfl⟩ := Int.eq_ofNat_of_zero_le f0
  obtain ⟨b, rfl⟩ := Int.eq_ofNat_of_zero_le g0
  exact h.co a b (by omega) (by omega) e
theorem fct_un {F : Fct} (h : IsFct F) {x : Int} (x0 : 0 ≤ x) (x1 : x < F.S.ob) : at0 F.a (at0 F.S.e x) = at0 F.T.e (at0 F.o x) := by
  obtain ⟨a, rfl⟩ := Int.eq_ofNat_of_zero_le x0
  exact h.un a (by omega)
theorem fct_en {F : Fct} (h : IsFct F) {f : Int} (f0 : 0 ≤ f) (f1 : f < F.S.s.length) : (0 ≤ at0 F.a f ∧ at0 F.a f < F.T.s.length) ∧ at0 F.T.s (at0 F.a f) = at0 F.o (at0 F.S.s f) ∧ at0 F.T.t (at0 F.a f) = at0 F.o (at0 F.S.t f) := by
  obtain ⟨a, rfl⟩ := Int.eq_ofNat_of_zero_le f0
  have := h.la
  exact ⟨allP_at h.ia (k := a) (by omega), h.en a (by omega)⟩
theorem obP_at {F G : Fct} {x : Int} (x0 : 0 ≤ x) (x1 : x < (obL F G).length) : (0 ≤ (atE (obL F G) x).1 ∧ (atE (obL F G) x).1 < F.o.length) ∧ (0 ≤ (atE (obL F G) x).2.1 ∧ (atE (obL F G) x).2.1 < G.o.length) ∧ (0 ≤ (atE (obL F G) x).2.2 ∧ (atE (obL F G) x).2.2 < F.T.s.length) ∧ at0 F.T.s (atE (obL F G) x).2.2 = at0 F.o (atE (obL F G) x).1 ∧ at0 F.T.t (atE (obL F G) x).2.2 = at0 G.o (atE (obL F G) x).2.1 := by
  obtain ⟨n, rfl⟩ := Int.eq_ofNat_of_zero_le x0
  exact obL_mem.1 (atE_mem (by omega))
noncomputable def cmU (F G : Fct) (x : Nat) : Int × Int := (at0 F.S.e (atE (obL F G) (x : Int)).1, at0 G.S.e (atE (obL F G) (x : Int)).2.1)
def cmT (F G : Fct) (p q : Int × Int) : Int × Int := (F.S.th p.1 q.1, G.S.th p.2 q.2)
theorem cmU_mem {F G : Fct} (h : CspP F G) {x : Nat} (hx : x < (obL F G).length) : ((x : Int), (x : Int), cmU F G x) ∈ arL F G (obL F G) := by
  have hP := obP_at (F := F) (G := G) (x := (x : Int)) (by omega) (by omega)
  obtain ⟨⟨a0, a1⟩, ⟨b0, b1⟩, ⟨h0, h1⟩, e1, e2⟩ := hP
  have lf := h.f.lo; have lg := h.g.lo
  have i1 := ShapeP.idn (isCat_of h.f.cs).toShapeP a0 (by omega)
  have i2 := ShapeP.idn (isCat_of h.g.cs).toShapeP b0 (by omega)
  have x0 : (0 : Int) ≤ x := Int.natCast_nonneg x
  have x1 : (x : Int) < (obL F G).length := by omega
  refine arL_mem.2 ⟨⟨x0, x1⟩, ⟨x0, x1⟩, paL_mem.2 ⟨⟨⟨i1.1, i1.2.1⟩, i1.2.2⟩, ⟨⟨i2.1, i2.2.1⟩, i2.2.2⟩, ?_⟩⟩
  have u1 := fct_un h.f a0 (by omega)
  have u2 := fct_un h.g b0 (by omega)
  have hi := cm_id (isCat_of h.f.ct) h0 h1
  have k1 : F.T.th (at0 F.a (cmU F G x).1) (atE (obL F G) (x : Int)).2.2 = (atE (obL F G) (x : Int)).2.2 := by
    show F.T.th (at0 F.a (at0 F.S.e _)) _ = _
    rw [u1]; rw [e1] at hi; exact hi.1
  have k2 : F.T.th (atE (obL F G) (x : Int)).2.2 (at0 G.a (cmU F G x).2) = (atE (obL F G) (x : Int)).2.2 := by
    show F.T.th _ (at0 G.a (at0 G.S.e _)) = _
    rw [u2, ← h.t]; rw [e2] at hi; exact hi.2
  exact k1.trans k2.symm
theorem cmT_mem {F G : Fct} (h : CspP F G) {e f : Ent (Int × Int)} (he : e ∈ arL F G (obL F G)) (hf : f ∈ arL F G (obL F G)) (hj : e.2.1 = f.1) : (e.1, f.2.1, cmT F G e.2.2 f.2.2) ∈ arL F G (obL F G) := by
  obtain ⟨s, t, u, v⟩ := e
  obtain ⟨t', r, u', v'⟩ := f
  have hj : t = t' := hj
  subst hj
  obtain ⟨hs, ht, hp⟩ := arL_mem.1 he
  obtain ⟨_, hr, hq⟩ := arL_mem.1 hf
  obtain ⟨⟨⟨u0, u1⟩, us, ut⟩, ⟨⟨v0, v1⟩, vs, vt⟩, hc⟩ := paL_mem.1 hp
  obtain ⟨⟨⟨p0, p1⟩, ps, pt⟩, ⟨⟨q0, q1⟩, qs, qt⟩, hd⟩ := paL_mem.1 hq
  have hs := (show 0 ≤ s ∧ s < _ from hs); have ht := (show 0 ≤ t ∧ t < _ from ht); have hr := (show 0 ≤ r ∧ r < _ from hr)
  have S := obP_at hs.1 hs.2; have T := obP_at ht.1 ht.2; have R := obP_at hr.1 hr.2
  obtain ⟨⟨sa0, sa1⟩, ⟨sb0, sb1⟩, ⟨sh0, sh1⟩, se1, se2⟩ := S
  obtain ⟨⟨ta0, ta1⟩, ⟨tb0, tb1⟩, ⟨th0, th1⟩, te1, te2⟩ := T
  obtain ⟨⟨ra0, ra1⟩, ⟨rb0, rb1⟩, ⟨rh0, rh1⟩, re1, re2⟩ := R
  have cF := isCat_of h.f.cs; have cG := isCat_of h.g.cs; have cT := isCat_of h.f.ct
  have A := th_ends cF.toShapeP u0 u1 p0 p1 (by rw [ut, ps])
  have B := th_ends cG.toShapeP v0 v1 q0 q1 (by rw [vt, qs])
  refine arL_mem.2 ⟨hs, hr, paL_mem.2 ⟨⟨A.1, A.2.1.trans us, A.2.2.trans pt⟩, ⟨B.1, B.2.1.trans vs, B.2.2.trans qt⟩, ?_⟩⟩
  show F.T.th (at0 F.a (F.S.th u u')) _ = F.T.th _ (at0 G.a (G.S.th v v'))
  rw [fct_co h.f u0 u1 p0 p1 (by rw [ut, ps]), fct_co h.g v0 v1 q0 q1 (by rw [vt, qs]), ← h.t]
  have U := fct_en h.f u0 u1; have P := fct_en h.f p0 p1
  have V := fct_en h.g v0 v1; have Q := fct_en h.g q0 q1
  rw [← h.t] at V Q
  have ut' : at0 F.S.t u = (atE (obL F G) t).1 := ut
  have us' : at0 F.S.s u = (atE (obL F G) s).1 := us
  have ps' : at0 F.S.s u' = (atE (obL F G) t).1 := ps
  have pt' : at0 F.S.t u' = (atE (obL F G) r).1 := pt
  have vs' : at0 G.S.s v = (atE (obL F G) s).2.1 := vs
  have vt' : at0 G.S.t v = (atE (obL F G) t).2.1 := vt
  have qs' : at0 G.S.s v' = (atE (obL F G) t).2.1 := qs
  have qt' : at0 G.S.t v' = (atE (obL F G) r).2.1 := qt
  have hc : F.T.th (at0 F.a u) (atE (obL F G) t).2.2 = F.T.th (atE (obL F G) s).2.2 (at0 G.a v) := hc
  have hd : F.T.th (at0 F.a u') (atE (obL F G) r).2.2 = F.T.th (atE (obL F G) t).2.2 (at0 G.a v') := hd
  show F.T.th (F.T.th (at0 F.a u) (at0 F.a u')) (atE (obL F G) r).2.2 = F.T.th (atE (obL F G) s).2.2 (F.T.th (at0 G.a v) (at0 G.a v'))
  rw [cm_as cT U.1.1 U.1.2 P.1.1 P.1.2 rh0 rh1 (by rw [U.2.2, P.2.1, ut', ps']) (by rw [P.2.2, re1, pt']), hd, ← cm_as cT U.1.1 U.1.2 th0 th1 Q.1.1 Q.1.2 (by rw [U.2.2, te1, ut']) (by rw [te2, Q.2.1, qs']), hc, cm_as cT sh0 sh1 V.1.1 V.1.2 Q.1.1 Q.1.2 (by rw [se2, V.2.1, vs']) (by rw [V.2.2, Q.2.1, vt', qs'])]
noncomputable def commaM (F G : Fct) : Cat := buildE ((obL F G).length : Int) (arL F G (obL F G)) (cmU F G) (cmT F G)
end Go.Proofs.YtpcabkdkdnchaaaGreat
set_option linter.unusedSimpArgs false
set_option linter.unusedVariables false
set_option linter.unusedSectionVars false
namespace Go.Proofs.YtpcabkdkdnchaaaGreat
open Go.RowKit
section
variable {w0 : World} {is : List Itm} {ops : Array Oper} {Q : Exit → Act → World → Prop} {o : Oper} {rest : List Oper} {N : Frm} {e : Env} {v : Value} {d : Nat} {K : Act → World → Prop}
theorem go_appendA {s x : Operand} {t : TypeId} {n : Nat} {xs ys : List Int} {ua : Option Addr} {un uc : Nat} (hd : o.dst = some d) (hN : Nat.blt d N = true) (hop : o.op = .call { callee := .builtin .append, args := #[s, x], argTypes := #[t, t] }) (ht : Tryz.prog.underlying t = some (.slice 2))
  (hs : evo e s = some v) (hx : evo e x = some (.slice ua un uc)) (hi : is[n]? = some (own1I v xs)) (hj : ∀ w, Mem w0 w is → Rd w (.slice ua un uc) ys) (hn : xs.length + ys.length ≤ 17592186044415)
  (hk : ∀ a cap, GK w0 (is.set n (own1I (.slice a (xs ++ ys).length cap) (xs ++ ys))) N K ((d, .slice a (xs ++ ys).length cap) :: e)) : GO w0 is N o e Q K := by
 cases ua with
 | some q => exact go_appendL hd hN hop ht hs hx hi hj rfl hn hk
 | none =>
  intro w ac M F
  obtain ⟨ad, cap, hv, _, hc⟩ := hj w M
  have hy : ys = [] := by
   rcases Nat.eq_zero_or_pos ys.length with h0 | h0
   ·exact List.eq_nil_of_length_eq_zero h0
   ·obtain ⟨b, off, ha, _⟩ := hc 0 h0
    subst ha; cases hv
  subst hy
  simp only [Value.slice.injEq, List.length_nil] at hv
  obtain ⟨_, rfl, _⟩ := hv
  simp only [List.append_nil] at hk
  obtain ⟨S, hS, hp, hset⟩ := mem_set M hi
  have hp : Own1 v xs w S := hp
  obtain ⟨va, vc, hvf, _⟩ := sl_form hp.1
  obtain ⟨i, hi', hz, hs1, hb⟩ := info_parts info64
  have hr : (Builtin.append_ #[t, t] o.type #[v, .slice none 0 uc]).run Tryz.prog w = .ok v w := by
   rcases hp.1.1.2 with ⟨rfl, _⟩ | ⟨g, cap, cur, rfl, _, _, hnc, _⟩
   ·simp [Builtin.append_, run_underlying ht, sizeOf, typeInfo, hi', Builtin.lenOf, Builtin.firstCells]
   ·simp [Builtin.append_, run_underlying ht, sizeOf, typeInfo, hi', Builtin.lenOf, Builtin.firstCells, hnc, storeCells]
  subst hvf
  have hM : Mem w0 w (is.set n (own1I (.slice va xs.length vc) xs)) := by
   have : is.set n (own1I (.slice va xs.length vc) xs) = is := by
    have h1 := (List.getElem?_eq_some_iff.1 hi)
    obtain ⟨hlt, he⟩ := h1
    rw [← he, List.set_getElem_self]
   rw [this]; exact M
  refine go_val (v := .slice va xs.length vc) (w' := w) hd hN F ?_ fun ac F => hk va vc w ac hM F
  intro ρ F; have hs := F _ _ hs; have hx := F _ _ hx
  simp only [execOp, hop, resolve, invoke, builtin, Sem.run_bind, Sem.run_pure, Result.andThen_ok, List.map_toArray, List.map_cons, List.map_nil, hs, hx]
  rw [hr]
  rfl
end
theorem take2_succ {xs : List (List Int)} {k : Nat} (h : k < xs.length) : xs.take k ++ [row2 xs (k : Int)] = xs.take (k + 1) := by
 rw [List.take_succ_eq_append_getElem h]; simp [row2, List.getD_eq_getElem?_getD, List.getElem?_eq_getElem h]
theorem take2_len {xs : List (List Int)} {k : Nat} (h : k ≤ xs.length) : (xs.take k).length = k := by simp; omega
set_option maxHeartbeats 1000000 in
set_option maxRecDepth 100000 in
theorem specOwn_any (w : World) (v : Value) (xs : List Int) (h : Rd w v xs) :
  Calls Tryz.prog 79 #[v] w (RetL w xs) := by
 obtain ⟨va, vc, rfl⟩ := rd_form h
 have hxl : xs.length ≤ 17592186044415 := by obtain ⟨_, _, _, hl, _⟩ := h; exact hl
 go_enter Tryz.func79, Tryz.ntmps79
 refine gc_enter (N := 6) rfl (look_cons (k := 0) rfl (look_nil _)) ?_
 refine gc_sr fun K1 hK1 => ?_
 refine gas ?_
 refine gnt (hK1 _ _ ?_)
 refine gc_sr fun K2 hK2 => ?_
 refine gop fun K4 hK4 => ?_
 refine go_slice0 rfl rfl rfl Tryz.underlying22 ?_
 intro B3
 refine hK4 _ _ ?_
 refine gm ?_
 refine gop fun K6 hK6 => ?_
 refine go_appendA (n := 0) rfl rfl rfl Tryz.underlying22 rfl rfl rfl (fun w M => mem_rd M h) (by first | simp; omega | omega) ?_
 intro va5 vc5
 refine hK6 _ _ ?_
 refine gas ?_
 refine gnt (hK2 _ _ ?_)
 refine gc_ret ?_
 refine ret_1 rfl rfl  (fun w M => ?_)
 exact ⟨_, rfl, mem_own1 (n := 0) M rfl, M.1⟩
set_option maxHeartbeats 1000000 in
set_option maxRecDepth 100000 in
theorem specOwn2_any (w : World) (v : Value) (xs : List (List Int)) (h : Rd2 w v xs) :
  Calls Tryz.prog 112 #[v] w (RetR w xs) := by
 obtain ⟨va, vc, rfl⟩ := rd2_form h
 have hxl := rd2_len h
 go_enter Tryz.func112, Tryz.ntmps112
 refine gc_enter (N := 21) rfl (look_cons (k := 0) rfl (look_nil _)) ?_
 refine gc_sr fun K1 hK1 => ?_
 refine gas ?_
 refine gnt (hK1 _ _ ?_)
 refine gc_sr fun K2 hK2 => ?_
 refine gop fun K4 hK4 => ?_
 refine go_sliceR0 rfl rfl rfl Tryz.underlying23 ?_
 intro B3
 refine hK4 _ _ ?_
 refine gas ?_
 refine gnt (hK2 _ _ ?_)
 refine gc_seq fun K5 hK5 => ?_
 refine gc_sr fun K6 hK6 => ?_
 refine gas ?_
 refine gnt (hK6 _ _ ?_)
 refine gc_block ?_
 try simp only [sL]
 refine gc_loopT ([(0, _), (2, _)] : Env) (fun s : Nat × (Option Addr) × Nat × (List Value) => (fun (k : Nat) (a : Option Addr) (q : Nat) (us : List Value) => (([(3, .slice a (xs.take k).length q), (4, .int .i64 (k : Int))] : Env), ([(0, own2U (.slice a (xs.take k).length q) us (xs.take k))] : List (Nat × Itm)), k ≤ xs.length, xs.length - k)) s.1 s.2.1 s.2.2.1 s.2.2.2) (0, _, _, _) (by repeat first | exact sub_nil | refine sub_cons rfl ?_) rfl (Nat.zero_le _) ?_
 rintro ⟨k, a, q, us⟩ hinv KL7 hKL7
 simp only [sU, sL] at hinv hKL7 ⊢
 have hk := hinv
 have hl := take2_len hk
 refine gc_seq fun K8 hK8 => ?_
 refine gc_sr fun K9 hK9 => ?_
 refine gm ?_
 refine gm ?_
 refine gv (qt_len rfl rfl ulE2 (fun w M => lenV_rd2 h)) ?_
 refine gv (qt_lss rfl rfl rfl) ?_
 refine gnt (hK9 _ _ ?_)
 refine gc_cond rfl (fun hc0 => ?_) (fun hc0 => ?_)
 ·try simp only [sA] at hc0
  refine gc_skip ?_
  refine gk_then (hK8 _ _ ?_)
  refine gc_seq fun K10 hK10 => ?_
  refine gc_block ?_
  refine gc_region ?_
  refine gm ?_
  refine gm ?_
  refine gm ?_
  refine gv (qti2 (fun w M => lenA_rd2 h)) ?_
  refine g_load2 (.free rfl) rfl rfl rfl rfl Tryz.underlying22 rfl h (by omega) (by omega) ?_
  intro ra11 rc11 hr11
  refine gop fun K13 hK13 => ?_
  refine go_callL rfl rfl rfl Tryz.func79 rfl (by decide) rfl (fun w M => specOwn_any w _ _ (mem_rd M hr11)) ?_
  intro va12 vc12
  refine hK13 _ _ ?_
  refine gop fun K15 hK15 => ?_
  refine go_sliceR1 (m := 1) rfl rfl rfl rfl Tryz.underlying23 rfl ?_
  intro B14
  refine hK15 _ _ ?_
  refine gop fun K17 hK17 => ?_
  refine go_appendRow (n := 0) (m := 1) (m' := 0) rfl rfl rfl Tryz.underlying23 rfl rfl rfl rfl rfl (by omega) ?_
  intro va16 vc16
  refine hK17 _ _ ?_
  refine gas ?_
  refine g_nil ?_
  refine gk_block ?_
  refine gk_then (hK10 _ _ ?_)
  refine gc_region ?_
  refine gm ?_
  refine gv (qt_add rfl rfl rfl (by omega)) ?_
  refine gas ?_
  refine g_nil ?_
  simp only [take2_succ (xs := xs) (k := k) (by omega)]
  refine gk_then (gk_take 1 ?_)
  refine gk_sub ?hs_18 (hKL7 (k + 1, _, _, _) ?hi_18 ?hm_18)
  case hs_18 => repeat first | exact sub_nil | refine sub_cons rfl ?_
  case hi_18 => omega
  case hm_18 => omega
 ·try simp only [sA] at hc0
  refine gc_exit ?_
  refine gk_then_exit ?_
  refine gk_then_exit ?_
  refine gk_block_hit ?_
  refine gk_then (hK5 _ _ ?_)
  refine gc_sr fun K19 hK19 => ?_
  refine gm ?_
  refine gas ?_
  refine gnt (hK19 _ _ ?_)
  refine gc_ret ?_
  refine ret_1 rfl rfl  (fun w M => ?_)
  obtain rfl : k = xs.length := by omega
  simp only [List.take_length] at M ⊢
  obtain ⟨S, hS, hb⟩ := mem_2U (n := 0) M rfl
  exact ⟨_, rfl, Own2.at (S := S) ⟨_, hb⟩ hS, M.1⟩
set_option maxHeartbeats 1000000 in
set_option maxRecDepth 100000 in
theorem specOwnC_any (w : World) (v : Value) (c : Cat) (h : RdC w v c) :
  Calls Tryz.prog 78 #[v] w (RetC w c) := by
 have h0 := h
 obtain ⟨va, vb, vc, vd, ve, vf, vg, vh, rfl, h1, h2, h3, h4, _⟩ := h.lists
 go_enter Tryz.func78, Tryz.ntmps78
 refine gc_enter (N := 18) rfl (look_cons (k := 0) rfl (look_nil _)) ?_
 refine gc_sr fun K1 hK1 => ?_
 refine gop fun K3 hK3 => ?_
 refine go_box rfl rfl rfl rfl rfl ?_
 intro B2
 refine hK3 _ _ ?_
 refine gop fun K5 hK5 => ?_
 refine go_alloc (z := (.agg #[.int .i64 0, .slice none 0 0, .slice none 0 0, .slice none 0 0, .slice none 0 0])) (cs := [.int .i64 0, .slice none 0 0, .slice none 0 0, .slice none 0 0, .slice none 0 0]) rfl rfl rfl (fun w => by kernel_rfl) rfl ?_
 intro B4
 refine hK5 _ _ ?_
 refine gnt (hK1 _ _ ?_)
 refine gc_seq fun K6 hK6 => ?_
 try simp only [sL]
 refine ga_start _ (fun w M => mem_erase 1 (M)) ?_
 refine gav 0 rfl (qtf Tryz.underlying29 (z := 0) (off := 0)) ?_
 refine gav 1 rfl (qtl Tryz.underlying2 (n := 0)) ?_
 refine gav 2 rfl (qtf Tryz.underlying29 (z := 0) (off := 1)) ?_
 refine gav 3 rfl (qtl Tryz.underlying22 (n := 0)) ?_
 refine gav 5 rfl (qtf Tryz.underlying29 (z := 0) (off := 2)) ?_
 refine gav 6 rfl (qtl Tryz.underlying22 (n := 0)) ?_
 refine gav 8 rfl (qtf Tryz.underlying29 (z := 0) (off := 3)) ?_
 refine gav 9 rfl (qtl Tryz.underlying22 (n := 0)) ?_
 refine gav 11 rfl (qtf Tryz.underlying29 (z := 0) (off := 4)) ?_
 refine gav 12 rfl (qtl Tryz.underlying23 (n := 0)) ?_
 refine gao 4 fun K8 hK8 => ?_
 refine go_callL rfl rfl rfl Tryz.func79 rfl (by decide) rfl (fun w M => specOwn_any w _ _ (mem_rd M h1)) ?_
 intro va7 vc7
 refine hK8 _ _ (fun w M => (mem_erase 1 (mem_take 2 M) :)) ?_
 refine gao 7 fun K10 hK10 => ?_
 refine go_callL rfl rfl rfl Tryz.func79 rfl (by decide) rfl (fun w M => specOwn_any w _ _ (mem_rd M h2)) ?_
 intro va9 vc9
 refine hK10 _ _ (fun w M => (mem_erase 1 (mem_take 2 M) :)) ?_
 refine gao 10 fun K12 hK12 => ?_
 refine go_callL rfl rfl rfl Tryz.func79 rfl (by decide) rfl (fun w M => specOwn_any w _ _ (mem_rd M h3)) ?_
 intro va11 vc11
 refine hK12 _ _ (fun w M => (mem_erase 1 (mem_take 2 M) :)) ?_
 refine gao 13 fun K14 hK14 => ?_
 refine go_callR rfl rfl rfl Tryz.func112 rfl (by decide) rfl (fun w M => specOwn2_any w _ _ (mem_rd2 M h4)) ?_
 intro va13 vc13 us13
 refine hK14 _ _ (fun w M => (mem_erase 1 (mem_take 2 M) :)) ?_
 refine gav 14 rfl (qt_build rfl rfl bt_Category) ?_
 refine gao 15 fun K15 hK15 => ?_
 refine go_storeS (n := 1) rfl rfl rfl rfl (by kernel_rfl) rfl rfl rfl ?_
 refine hK15 _ _ (fun w M => (mem_erase 1 (mem_take 2 M) :)) ?_
 refine ga_done (by kernel_rfl) ?_
 refine gk_then (hK6 _ _ ?_)
 refine gc_ret ?_
 refine ret_S (n := 1) rfl rfl Tryz.underlying29 rfl (by kernel_rfl) rfl (fun w M => ?_)
 exact ⟨_, rfl, ownC_star (mem_pick (n := 5) (mem_pick (n := 5) (mem_pick (n := 5) (mem_pick (n := 5) (M) rfl) rfl) rfl) rfl).2, M.1⟩
end Go.Proofs.YtpcabkdkdnchaaaGreat
set_option linter.unusedSimpArgs false
set_option linter.unusedVariables false
set_option linter.unusedSectionVars false
namespace Go.Proofs.YtpcabkdkdnchaaaGreat
open Go.RowKit
def RowOk (rows : List (List Int)) (b : Int) (i : Nat) : Prop := (row2 rows (i : Int)).length = rows.length ∧ AllP b (row2 rows (i : Int))
def SquareP (rows : List (List Int)) (b : Int) : Prop := ∀ i : Nat, i < rows.length → RowOk rows b i
theorem allP_to {b : Int} {xs : List Int} (h : ∀ j : Nat, j < xs.length → 0 ≤ at0 xs (j : Int) ∧ at0 xs (j : Int) < b) : AllP b xs := fun x hx => by
 obtain ⟨j, hj, rfl⟩ := List.getElem_of_mem hx
 have := h j hj
 rwa [at0_nat, List.getD_eq_getElem?_getD, List.getElem?_eq_getElem hj] at this
theorem allP_not {b : Int} {xs : List Int} {j : Nat} (hj : j < xs.length) (h : ¬ (0 ≤ at0 xs (j : Int) ∧ at0 xs (j : Int) < b)) : ¬ AllP b xs := fun ha => h (allP_at ha hj)
theorem sq_at {rows : List (List Int)} {b : Int} (h : SquareP rows b) {i j : Nat} (hi : i < rows.length) (hj : j < rows.length) : 0 ≤ at0 (row2 rows (i : Int)) (j : Int) ∧ at0 (row2 rows (i : Int)) (j : Int) < b :=
 allP_at (h i hi).2 (by rw [(h i hi).1]; exact hj)
def FitP (c : Cat) : Prop := c.ob ≤ 8 ∧ c.s.length ≤ 40
set_option maxHeartbeats 1000000 in
set_option maxRecDepth 100000 in
theorem isSquare_any (w : World) (u : Value) (rows : List (List Int)) (b : Int) (hu : Rd2 w u rows) :
  Calls Tryz.prog 176 #[u, .int .i64 b] w (RetB w (bP (SquareP rows (b + 1)))) := by
 obtain ⟨ua, uc, rfl⟩ := rd2_form hu
 have hul := rd2_len hu
 go_enter Tryz.func176, Tryz.ntmps176
 refine gc_enter (N := 35) rfl (look_cons (k := 0) rfl (look_cons (k := 1) rfl (look_nil _))) ?_
 refine gc_sr fun K1 hK1 => ?_
 refine gas ?_
 refine gnt (hK1 _ _ ?_)
 refine gc_seq fun K2 hK2 => ?_
 refine gc_sr fun K3 hK3 => ?_
 refine gm ?_
 refine gv (qt_len rfl rfl ulE2 (fun w M => lenV_rd2 hu)) ?_
 refine gm ?_
 refine gnt (hK3 _ _ ?_)
 refine gc_block ?_
 try simp only [sL]
 refine gc_loopT ([(0, _), (1, _), (9, _), (10, _)] : Env) (fun s : Nat => (fun (k : Nat) => (([(11, .int .i64 (k : Int))] : Env), ([] : List (Nat × Itm)), k ≤ rows.length ∧ ∀ j : Nat, j < k → RowOk rows (b + 1) j, rows.length - k)) s) (0) (by repeat first | exact sub_nil | refine sub_cons rfl ?_) rfl ⟨Nat.zero_le _, fun f hf => absurd hf (by omega)⟩ ?_
 rintro k hinv KL4 hKL4
 simp only [sU, sL] at hinv hKL4 ⊢
 obtain ⟨hk, hall⟩ := hinv
 refine gc_sr fun K5 hK5 => ?_
 refine gv (qt_lss rfl rfl rfl) ?_
 refine gnt (hK5 _ _ ?_)
 refine gc_seq fun K6 hK6 => ?_
 refine gc_cond rfl (fun hc0 => ?_) (fun hc0 => ?_)
 ·try simp only [sA] at hc0
  refine gc_skip ?_
  refine gk_then (hK6 _ _ ?_)
  refine gc_seq fun K7 hK7 => ?_
  refine gc_block ?_
  refine gc_sr fun K8 hK8 => ?_
  refine gv (qti2 (fun w M => lenA_rd2 hu)) ?_
  refine g_load2 (.free rfl) rfl rfl rfl rfl Tryz.underlying22 rfl hu (by omega) (by omega) ?_
  intro ra9 rc9 hr9
  refine gas ?_
  refine gnt (hK8 _ _ ?_)
  refine gc_seq fun K10 hK10 => ?_
  refine gc_sr fun K11 hK11 => ?_
  refine gm ?_
  refine gv (qln (fun w M => lenV_rd hr9)) ?_
  refine gm ?_
  refine gv (qt_len rfl rfl ulE2 (fun w M => lenV_rd2 hu)) ?_
  refine gv (qt_neq rfl rfl rfl) ?_
  refine gnt (hK11 _ _ ?_)
  refine gc_cond rfl (fun hc1 => ?_) (fun hc1 => ?_)
  ·try simp only [sA] at hc1
   refine gc_sr fun K12 hK12 => ?_
   refine gas ?_
   refine gnt (hK12 _ _ ?_)
   refine gc_ret ?_
   refine gk_then_ret ?_
   refine gk_block_ret ?_
   refine gk_then_ret ?_
   refine gk_then_ret ?_
   refine gk_block_ret ?_
   refine gk_then_ret ?_
   refine ret_1 rfl rfl  (fun w M => ?_)
   rw [bP_f (fun h : SquareP rows (b + 1) => by have := (h k (by omega)).1; omega)]; exact ⟨rfl, M.1⟩
  ·try simp only [sA] at hc1
   refine gc_skip ?_
   refine gk_then (hK10 _ _ ?_)
   refine gc_sr fun K13 hK13 => ?_
   refine gm ?_
   refine gv (qln (fun w M => lenV_rd hr9)) ?_
   refine gm ?_
   refine gnt (hK13 _ _ ?_)
   refine gc_block ?_
   try simp only [sL]
   refine gc_loopT ([(0, _), (1, _), (6, _), (9, _), (10, _), (11, _), (12, _), (19, _), (20, _), (21, _)] : Env) (fun s : Nat => (fun (l : Nat) => (([(22, .int .i64 (l : Int))] : Env), ([] : List (Nat × Itm)), l ≤ (row2 rows (k : Int)).length ∧ ∀ j : Nat, j < l → 0 ≤ at0 (row2 rows (k : Int)) (j : Int) ∧ at0 (row2 rows (k : Int)) (j : Int) < b + 1, (row2 rows (k : Int)).length - l)) s) (0) (by repeat first | exact sub_nil | refine sub_cons rfl ?_) rfl ⟨Nat.zero_le _, fun f hf => absurd hf (by omega)⟩ ?_
   rintro l hinv KL14 hKL14
   simp only [sU, sL] at hinv hKL14 ⊢
   obtain ⟨hl, hin⟩ := hinv
   refine gc_sr fun K15 hK15 => ?_
   refine gv (qt_lss rfl rfl rfl) ?_
   refine gnt (hK15 _ _ ?_)
   refine gc_seq fun K16 hK16 => ?_
   refine gc_cond rfl (fun hc2 => ?_) (fun hc2 => ?_)
   ·try simp only [sA] at hc2
    refine gc_skip ?_
    refine gk_then (hK16 _ _ ?_)
    refine gc_seq fun K17 hK17 => ?_
    refine gc_block ?_
    refine gc_sr fun K18 hK18 => ?_
    refine gv (qti (fun w M => lenA_rd hr9)) ?_
    refine gv (qtd (fun w M => mem_rd M hr9)) ?_
    refine gas ?_
    refine gnt (hK18 _ _ ?_)
    refine gc_sr fun K19 hK19 => ?_
    refine gm ?_
    refine gv (qt_lss rfl rfl rfl) ?_
    refine g_splitv (.free rfl) rfl rfl (qt_move rfl rfl) (fun hs9_2 => ?_) (fun hs9_2 => ?_)
    ·try simp only [sA] at hs9_2
     refine gsk ?_
     refine gsk ?_
     refine gsk ?_
     refine gv (qt_pick_t rfl rfl rfl) ?_
     refine gnt (hK19 _ _ ?_)
     refine gc_cond_t rfl ?_
     refine gc_sr fun K20 hK20 => ?_
     refine gas ?_
     refine gnt (hK20 _ _ ?_)
     refine gc_ret ?_
     refine gk_block_ret ?_
     refine gk_then_ret ?_
     refine gk_then_ret ?_
     refine gk_block_ret ?_
     refine gk_block_ret ?_
     refine gk_then_ret ?_
     refine gk_then_ret ?_
     refine gk_block_ret ?_
     refine gk_then_ret ?_
     refine ret_1 rfl rfl  (fun w M => ?_)
     rw [bP_f (fun h : SquareP rows (b + 1) => allP_not (j := l) (by omega) (by omega) (h k (by omega)).2)]; exact ⟨rfl, M.1⟩
    ·try simp only [sA] at hs9_2
     refine gvh (qt_move rfl rfl) ?_
     refine gvh (qt_move rfl rfl) ?_
     refine gvh (qt_gtr rfl rfl rfl) ?_
     refine gv (qt_pick_f rfl rfl rfl) ?_
     refine gnt (hK19 _ _ ?_)
     refine gc_cond rfl (fun hc3 => ?_) (fun hc3 => ?_)
     ·try simp only [sA] at hc3
      refine gc_sr fun K21 hK21 => ?_
      refine gas ?_
      refine gnt (hK21 _ _ ?_)
      refine gc_ret ?_
      refine gk_block_ret ?_
      refine gk_then_ret ?_
      refine gk_then_ret ?_
      refine gk_block_ret ?_
      refine gk_block_ret ?_
      refine gk_then_ret ?_
      refine gk_then_ret ?_
      refine gk_block_ret ?_
      refine gk_then_ret ?_
      refine ret_1 rfl rfl  (fun w M => ?_)
      rw [bP_f (fun h : SquareP rows (b + 1) => allP_not (j := l) (by omega) (by omega) (h k (by omega)).2)]; exact ⟨rfl, M.1⟩
     ·try simp only [sA] at hc3
      refine gc_skip ?_
      refine gk_block ?_
      refine gk_then (hK17 _ _ ?_)
      refine gc_region ?_
      refine gv (qt_add rfl rfl rfl (by omega)) ?_
      refine gm ?_
      refine g_nil ?_
      refine gk_then (gk_take 0 ?_)
      refine gk_sub ?hs_22 (hKL14 (l + 1) ?hi_22 ?hm_22)
      case hs_22 => repeat first | exact sub_nil | refine sub_cons rfl ?_
      case hi_22 => exact ⟨by omega, all_next hin (by omega)⟩
      case hm_22 => omega
   ·try simp only [sA] at hc2
    refine gc_exit ?_
    refine gk_then_exit ?_
    refine gk_then_exit ?_
    refine gk_block_hit ?_
    refine gk_block ?_
    refine gk_then (hK7 _ _ ?_)
    refine gc_region ?_
    refine gv (qt_add rfl rfl rfl (by omega)) ?_
    refine gm ?_
    refine g_nil ?_
    refine gk_then (gk_take 0 ?_)
    refine gk_sub ?hs_23 (hKL4 (k + 1) ?hi_23 ?hm_23)
    case hs_23 => repeat first | exact sub_nil | refine sub_cons rfl ?_
    case hi_23 => exact ⟨by omega, all_next hall ⟨by omega, allP_to fun j hj => hin j (by omega)⟩⟩
    case hm_23 => omega
 ·try simp only [sA] at hc0
  refine gc_exit ?_
  refine gk_then_exit ?_
  refine gk_then_exit ?_
  refine gk_block_hit ?_
  refine gk_then (hK2 _ _ ?_)
  refine gc_sr fun K24 hK24 => ?_
  refine gas ?_
  refine gnt (hK24 _ _ ?_)
  refine gc_ret ?_
  refine ret_1 rfl rfl  (fun w M => ?_)
  obtain rfl : k = rows.length := by omega
  rw [bP_t (show SquareP rows (b + 1) from hall)]; exact ⟨rfl, M.1⟩
set_option maxHeartbeats 1000000 in
set_option maxRecDepth 100000 in
theorem specFits_any (w : World) (v : Value) (c : Cat) (h : RdC w v c) :
  Calls Tryz.prog 77 #[v] w (RetB w (bP (FitP c))) := by
 have h0 := h
 obtain ⟨va, vb, vc, vd, ve, vf, vg, vh, rfl, h1, h2, h3, h4, _⟩ := h.lists
 go_enter Tryz.func77, Tryz.ntmps77
 refine gc_enter (N := 12) rfl (look_cons (k := 0) rfl (look_nil _)) ?_
 refine gc_sr fun K1 hK1 => ?_
 refine gop fun K3 hK3 => ?_
 refine go_box rfl rfl rfl rfl rfl ?_
 intro B2
 refine hK3 _ _ ?_
 refine gas ?_
 refine gnt (hK1 _ _ ?_)
 refine gc_sr fun K4 hK4 => ?_
 refine gv (qtf Tryz.underlying29 (z := 0) (off := 0)) ?_
 refine gv (qtl Tryz.underlying2 (n := 0)) ?_
 refine gv (qt_leq rfl rfl rfl) ?_
 refine g_splitv (.free rfl) rfl rfl (qt_move rfl rfl) (fun hs1_3 => ?_) (fun hs1_3 => ?_)
 ·try simp only [sA] at hs1_3
  refine gvh (qtf Tryz.underlying29 (z := 0) (off := 1)) ?_
  refine gvh (qtl Tryz.underlying22 (n := 0)) ?_
  refine gvh (qln (fun w M => lenV_rd h1)) ?_
  refine gvh (qt_leq rfl rfl rfl) ?_
  refine gv (qt_pick_t rfl rfl rfl) ?_
  refine gas ?_
  refine gnt (hK4 _ _ ?_)
  refine gc_ret ?_
  refine ret_1 rfl rfl  (fun w M => ?_)
  rw [show bP (FitP c) = decide ((c.s.length : Int) ≤ 40) from by rw [← bP_dec]; exact bP_congr ⟨fun h => by have := h.2; omega, fun h => ⟨by omega, by omega⟩⟩]; exact ⟨rfl, M.1⟩
 ·try simp only [sA] at hs1_3
  refine gsk ?_
  refine gsk ?_
  refine gsk ?_
  refine gsk ?_
  refine gv (qt_pick_f rfl rfl rfl) ?_
  refine gas ?_
  refine gnt (hK4 _ _ ?_)
  refine gc_ret ?_
  refine ret_1 rfl rfl  (fun w M => ?_)
  rw [bP_f (fun h : FitP c => by have := h.1; omega)]; exact ⟨rfl, M.1⟩
end Go.Proofs.YtpcabkdkdnchaaaGreat
set_option linter.unusedSimpArgs false
set_option linter.unusedVariables false
set_option linter.unusedSectionVars false
namespace Go.Proofs.YtpcabkdkdnchaaaGreat
open Go.RowKit
def row3 (e : Ent Int) : List Int := [e.1, e.2.1, e.2.2]
def row4 (e : Ent (Int × Int)) : List Int := [e.1, e.2.1, e.2.2.1, e.2.2.2]
theorem row4_inj {e f : Ent (Int × Int)} (h : row4 e = row4 f) : e = f := by
  obtain ⟨a, b, c, d⟩ := e; obtain ⟨a', b', c', d'⟩ := f
  simp only [row4, List.cons.injEq, and_true] at h
  obtain ⟨rfl, rfl, rfl, rfl⟩ := h; rfl
theorem row2_map {α : Type} [Inhabited α] {r : Ent α → List Int} {es : List (Ent α)} {i : Nat} (h : i < es.length) : row2 (es.map r) (i : Int) = r (atE es (i : Int)) := by
  unfold row2
  rw [Int.toNat_natCast, List.getD_eq_getElem?_getD, List.getElem?_map, List.getElem?_eq_getElem h, atE_eq h]; rfl
def findR (rows : List (List Int)) (l : List Int) : Int := if l ∈ rows then (rows.idxOf l : Int) else -1
theorem findR_f {rows : List (List Int)} {l : List Int} (h : l ∉ rows) : findR rows l = -1 := if_neg h
theorem findR_at {rows : List (List Int)} {l : List Int} {i : Nat} (h : i < rows.length) (he : row2 rows (i : Int) = l) (hn : l ∉ rows.take i) : findR rows l = i := by
  have e : rows[i] = l := by rw [← he]; unfold row2; rw [Int.toNat_natCast, List.getD_eq_getElem?_getD, List.getElem?_eq_getElem h]; rfl
  have hs : rows = rows.take i ++ l :: rows.drop (i + 1) := by rw [← e, ← List.drop_eq_getElem_cons h, List.take_append_drop]
  have hm : l ∈ rows := by rw [← e]; exact List.getElem_mem h
  unfold findR; rw [if_pos hm]
  have : rows.idxOf l = i := by
    have h1 : (rows.take i ++ l :: rows.drop (i + 1)).idxOf l = i := by
      rw [List.idxOf_append, if_neg hn, List.idxOf_cons_self, List.length_take]; omega
    rw [← hs] at h1; exact h1
  rw [this]
theorem notin_take {rows : List (List Int)} {l : List Int} {i : Nat} (h : i < rows.length) (he : ¬ row2 rows (i : Int) = l) (hn : l ∉ rows.take i) : l ∉ rows.take (i + 1) := by
  rw [List.take_succ_eq_append_getElem h]
  intro hm
  rcases List.mem_append.1 hm with hm | hm
  · exact hn hm
  · refine he ?_
    rw [List.mem_singleton.1 hm]; unfold row2; rw [Int.toNat_natCast, List.getD_eq_getElem?_getD, List.getElem?_eq_getElem h]; rfl
theorem idxOf_mapC {α β : Type} [BEq α] [LawfulBEq α] [BEq β] [LawfulBEq β] {f : α → β} (hf : ∀ a b, f a = f b → a = b) (x : α) : ∀ xs : List α, (xs.map f).idxOf (f x) = xs.idxOf x
  | [] => rfl
  | a :: xs => by
    rw [List.map_cons, List.idxOf_cons, List.idxOf_cons, idxOf_mapC hf x xs]
    by_cases h : a = x
    · subst h
      rw [show (f a == f a) = true from beq_self_eq_true _, show (a == a) = true from beq_self_eq_true _]
    · rw [show (f a == f x) = false from beq_eq_false_iff_ne.2 fun e => h (hf _ _ e), show (a == x) = false from beq_eq_false_iff_ne.2 h]
theorem findR_posG {α : Type} [DecidableEq α] {f : Ent α → List Int} (hf : ∀ a b, f a = f b → a = b) {es : List (Ent α)} {e : Ent α} (h : e ∈ es) : findR (es.map f) (f e) = posE es e := by
  unfold findR posE
  rw [if_pos h, if_pos (List.mem_map.2 ⟨e, h, rfl⟩), idxOf_mapC hf]
theorem findR_pos {es : List (Ent (Int × Int))} {e : Ent (Int × Int)} (h : e ∈ es) : findR (es.map row4) (row4 e) = posE es e := findR_posG (fun _ _ => row4_inj) h
def colR (rows : List (List Int)) (k : Int) : List Int := rows.map fun r => at0 r k
theorem colR_len (rows : List (List Int)) (k : Int) : (colR rows k).length = rows.length := by simp [colR]
theorem colR_at {rows : List (List Int)} {k : Int} {i : Nat} (h : i < rows.length) : at0 (colR rows k) (i : Int) = at0 (row2 rows (i : Int)) k := by
  unfold colR row2
  rw [at0_nat, List.getD_eq_getElem?_getD, List.getElem?_map, List.getElem?_eq_getElem h, Int.toNat_natCast, List.getD_eq_getElem?_getD, List.getElem?_eq_getElem h]; rfl
theorem colR_succ {rows : List (List Int)} {k : Int} {i : Nat} (h : i < rows.length) : colR (rows.take i) k ++ [at0 (row2 rows (i : Int)) k] = colR (rows.take (i + 1)) k := by
  unfold colR
  rw [List.take_succ_eq_append_getElem h, List.map_append]
  unfold row2; rw [Int.toNat_natCast, List.getD_eq_getElem?_getD, List.getElem?_eq_getElem h]; rfl
def spcE (rows : List (List Int)) (A B : Cat) (ls rs : List Int) (x : Nat) : Int := findR rows [(x : Int), (x : Int), at0 A.e (at0 ls (x : Int)), at0 B.e (at0 rs (x : Int))]
def spcM (rows : List (List Int)) (A B : Cat) (i j : Nat) : Int := if at0 (row2 rows (i : Int)) 1 = at0 (row2 rows (j : Int)) 0 then findR rows [at0 (row2 rows (i : Int)) 0, at0 (row2 rows (j : Int)) 1, A.th (at0 (row2 rows (i : Int)) 2) (at0 (row2 rows (j : Int)) 2), B.th (at0 (row2 rows (i : Int)) 3) (at0 (row2 rows (j : Int)) 3)] else -1
theorem spcM_t {rows : List (List Int)} {A B : Cat} {i j : Nat} (h : at0 (row2 rows (i : Int)) 1 = at0 (row2 rows (j : Int)) 0) : spcM rows A B i j = findR rows [at0 (row2 rows (i : Int)) 0, at0 (row2 rows (j : Int)) 1, A.th (at0 (row2 rows (i : Int)) 2) (at0 (row2 rows (j : Int)) 2), B.th (at0 (row2 rows (i : Int)) 3) (at0 (row2 rows (j : Int)) 3)] := if_pos h
theorem spcM_f {rows : List (List Int)} {A B : Cat} {i j : Nat} (h : ¬ at0 (row2 rows (i : Int)) 1 = at0 (row2 rows (j : Int)) 0) : spcM rows A B i j = -1 := if_neg h
noncomputable def spcC (n : Nat) (rows : List (List Int)) (A B : Cat) (ls rs : List Int) : Cat :=
  ⟨(n : Int), colR rows 0, colR rows 1, tabTo (spcE rows A B ls rs) n, if (n : Int) ≤ 8 ∧ rows.length ≤ 40 then rowsTo (fun i => tabTo (spcM rows A B i) rows.length) rows.length else []⟩
theorem spcC_fit (n : Nat) (rows : List (List Int)) (A B : Cat) (ls rs : List Int) (m : List (List Int)) (e : List Int) : FitP ⟨(n : Int), colR rows 0, colR rows 1, e, m⟩ ↔ (n : Int) ≤ 8 ∧ rows.length ≤ 40 :=
  ⟨fun h => ⟨h.1, by have h2 : (colR rows 0).length ≤ 40 := h.2; rwa [colR_len] at h2⟩, fun h => ⟨h.1, show (colR rows 0).length ≤ 40 by rw [colR_len]; exact h.2⟩⟩
theorem spc_comma {F G : Fct} (h : CspP F G) (hf : ((obL F G).length : Int) ≤ 8 ∧ (arL F G (obL F G)).length ≤ 40) :
    spcC (obL F G).length ((arL F G (obL F G)).map row4) F.S G.S (colR ((obL F G).map row3) 0) (colR ((obL F G).map row3) 1) = commaM F G := by
  obtain ⟨os, hos⟩ : ∃ os, os = obL F G := ⟨_, rfl⟩
  obtain ⟨qs, has⟩ : ∃ qs, qs = arL F G (obL F G) := ⟨_, rfl⟩
  have hc0 : colR (qs.map row4) 0 = tabTo (fun i => (atE qs (i : Int)).1) qs.length := tabTo_ext (by rw [colR_len, List.length_map]) fun i hi => by
    rw [colR_at (by rw [List.length_map]; exact hi), row2_map hi]; rfl
  have hc1 : colR (qs.map row4) 1 = tabTo (fun i => (atE qs (i : Int)).2.1) qs.length := tabTo_ext (by rw [colR_len, List.length_map]) fun i hi => by
    rw [colR_at (by rw [List.length_map]; exact hi), row2_map hi]; rfl
  have hU : ∀ x, x < os.length → ((x : Int), (x : Int), cmU F G x) ∈ qs := fun x hx => by rw [has]; exact cmU_mem h (by rw [← hos]; exact hx)
  have hT : ∀ e f, e ∈ qs → f ∈ qs → e.2.1 = f.1 → (e.1, f.2.1, cmT F G e.2.2 f.2.2) ∈ qs := fun e f he hf' hj => by rw [has] at he hf' ⊢; exact cmT_mem h he hf' hj
  unfold commaM buildE spcC
  rw [if_pos (by rw [List.length_map]; exact hf), ← has, ← hos, hc0, hc1, List.length_map]
  have e1 : tabTo (spcE (qs.map row4) F.S G.S (colR (os.map row3) 0) (colR (os.map row3) 1)) os.length = tabTo (fun x => posE qs ((x : Int), (x : Int), cmU F G x)) ((os.length : Int)).toNat := by
    rw [Int.toNat_natCast]
    refine tabTo_congr fun x hx => ?_
    unfold spcE
    rw [colR_at (by rw [List.length_map]; exact hx), colR_at (by rw [List.length_map]; exact hx), row2_map hx, ← findR_pos (hU x hx)]
    unfold row4 cmU; rw [← hos]; rfl
  have e2 : rowsTo (fun i => tabTo (spcM (qs.map row4) F.S G.S i) qs.length) qs.length = rowsTo (fun i => rowE qs (cmT F G) (atE qs (i : Int))) qs.length := by
    refine rowsTo_congr fun i hi => ?_
    unfold rowE
    refine tabTo_congr fun j hj => ?_
    unfold spcM cellE
    rw [row2_map hi, row2_map hj]
    by_cases hj' : (atE qs (i : Int)).2.1 = (atE qs (j : Int)).1
    · rw [if_pos hj', if_pos (show at0 (row4 (atE qs (i : Int))) 1 = at0 (row4 (atE qs (j : Int))) 0 from hj'), ← findR_pos (hT _ _ (atE_mem hi) (atE_mem hj) hj')]
      rfl
    · rw [if_neg hj', if_neg (show ¬ at0 (row4 (atE qs (i : Int))) 1 = at0 (row4 (atE qs (j : Int))) 0 from hj')]
  rw [e1, e2]
end Go.Proofs.YtpcabkdkdnchaaaGreat
