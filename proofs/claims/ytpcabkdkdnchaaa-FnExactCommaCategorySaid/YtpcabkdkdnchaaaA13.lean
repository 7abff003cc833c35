import Derived.Test.YtpcabkdkdnchaaaA10
import Derived.Test.YtpcabkdkdnchaaaA12
import Derived.Test.YtpcabkdkdnchaaaA6
import Derived.Test.YtpcabkdkdnchaaaA9
import Derived.Deep.MidRow
set_option linter.unusedSimpArgs false
set_option linter.unusedVariables false
set_option linter.unusedSectionVars false
namespace Go.Proofs.Ytpcabkdkdnchaaa
open Go.RowKit
theorem cm_range {β : Type} {f : Nat → List β} {z : List β} {k : Nat} (hz : z <+: f k) : ∀ {n : Nat}, k < n → ((List.range k).flatMap f ++ z) <+: (List.range n).flatMap f
  | 0, h => absurd h (by omega)
  | n + 1, h => by
    rw [List.range_succ, List.flatMap_append, List.flatMap_singleton]
    rcases Nat.lt_or_ge k n with h1 | h1
    · exact (cm_range hz h1).trans (List.prefix_append ..)
    · obtain rfl : k = n := by omega
      exact (List.prefix_append_right_inj _).2 hz
theorem cm_rangeS {β : Type} (f : Nat → List β) (k : Nat) : (List.range (k + 1)).flatMap f = (List.range k).flatMap f ++ f k := by
  rw [List.range_succ, List.flatMap_append, List.flatMap_singleton]
theorem cm_take {xs : List Int} {i : Nat} (h : i < xs.length) : xs.take (i + 1) = xs.take i ++ [at0 xs (i : Int)] := by
  rw [List.take_succ_eq_append_getElem h]
  show xs.take i ++ [xs[i]] = xs.take i ++ [xs.getD (i : Int).toNat 0]
  rw [Int.toNat_natCast, List.getD_eq_getElem?_getD, List.getElem?_eq_getElem h]; rfl
theorem cm_takeS {β : Type} (f : Int → List β) {xs : List Int} {i : Nat} (h : i < xs.length) : (xs.take (i + 1)).flatMap f = (xs.take i).flatMap f ++ f (at0 xs (i : Int)) := by
  rw [cm_take h, List.flatMap_append, List.flatMap_singleton]
theorem cm_flat {β : Type} {f : Int → List β} {xs : List Int} {i : Nat} {z : List β} (h : i < xs.length) (hz : z <+: f (at0 xs (i : Int))) : ((xs.take i).flatMap f ++ z) <+: xs.flatMap f := by
  refine List.IsPrefix.trans ((List.prefix_append_right_inj _).2 hz) ?_
  rw [← cm_takeS f h]
  have : xs.flatMap f = (xs.take (i + 1)).flatMap f ++ (xs.drop (i + 1)).flatMap f := by rw [← List.flatMap_append, List.take_append_drop]
  rw [this]; exact List.prefix_append ..
theorem cm_map {β : Type} {g : Int → β} {xs : List Int} {i : Nat} (h : i < xs.length) : ((xs.take i).map g ++ [g (at0 xs (i : Int))]) <+: xs.map g := by
  have h1 : (xs.take i).map g ++ [g (at0 xs (i : Int))] = (xs.take (i + 1)).map g := by rw [cm_take h, List.map_append]; rfl
  rw [h1]
  have : xs.map g = (xs.take (i + 1)).map g ++ (xs.drop (i + 1)).map g := by rw [← List.map_append, List.take_append_drop]
  rw [this]; exact List.prefix_append ..
theorem cm_mapS {β : Type} (g : Int → β) {xs : List Int} {i : Nat} (h : i < xs.length) : (xs.take i).map g ++ [g (at0 xs (i : Int))] = (xs.take (i + 1)).map g := by rw [cm_take h, List.map_append]; rfl
theorem cm_filT {β : Type} {g : Int → β} {p : Int → Bool} {xs : List Int} {i : Nat} (h : i < xs.length) (hp : p (at0 xs (i : Int)) = true) : ((xs.take i).filter p).map g ++ [g (at0 xs (i : Int))] = ((xs.take (i + 1)).filter p).map g := by
  rw [cm_take h, List.filter_append, List.map_append, List.filter_cons_of_pos hp]; rfl
theorem cm_filF {β : Type} {g : Int → β} {p : Int → Bool} {xs : List Int} {i : Nat} (h : i < xs.length) (hp : p (at0 xs (i : Int)) = false) : ((xs.take i).filter p).map g = ((xs.take (i + 1)).filter p).map g := by
  rw [cm_take h, List.filter_append, List.map_append, List.filter_cons_of_neg (by rw [hp]; decide), List.filter_nil, List.map_nil, List.append_nil]
theorem cm_fil {β : Type} {g : Int → β} {p : Int → Bool} {xs : List Int} (i : Nat) : ((xs.take i).filter p).map g <+: (xs.filter p).map g := by
  have : (xs.filter p).map g = ((xs.take i).filter p).map g ++ ((xs.drop i).filter p).map g := by rw [← List.map_append, ← List.filter_append, List.take_append_drop]
  rw [this]; exact List.prefix_append ..
theorem cm_nodup {α β : Type} {f : α → List β} : ∀ {xs : List α}, xs.Nodup → (∀ x ∈ xs, (f x).Nodup) → (∀ x ∈ xs, ∀ y ∈ xs, ∀ z, z ∈ f x → z ∈ f y → x = y) → (xs.flatMap f).Nodup
  | [], _, _, _ => by simp
  | a :: xs, h, h1, h2 => by
    rw [List.flatMap_cons]
    have h := List.nodup_cons.1 h
    refine List.nodup_append.2 ⟨h1 a (List.mem_cons_self ..), cm_nodup h.2 (fun x hx => h1 x (List.mem_cons_of_mem _ hx)) (fun x hx y hy => h2 x (List.mem_cons_of_mem _ hx) y (List.mem_cons_of_mem _ hy)), fun z hz w hw e => ?_⟩
    subst e
    obtain ⟨y, hy, hzy⟩ := List.mem_flatMap.1 hw
    have := h2 a (List.mem_cons_self ..) y (List.mem_cons_of_mem _ hy) z hz hzy
    subst this
    exact h.1 hy
theorem cm_hom1 (c : Cat) (x y : Int) (k : Nat) : (homTo c x y k).Nodup := by
  unfold homTo
  refine List.Pairwise.map _ ?_ (List.Pairwise.filter _ (List.nodup_range (n := k)))
  intro a b h e; exact h (by omega)
def obH (F G : Fct) (a b : Nat) : List (Ent Int) := (homTo F.T (at0 F.o (a : Int)) (at0 G.o (b : Int)) F.T.s.length).map fun h => ((a : Int), (b : Int), h)
def obR (F G : Fct) (a : Nat) : List (Ent Int) := (List.range G.o.length).flatMap (obH F G a)
def obL (F G : Fct) : List (Ent Int) := (List.range F.o.length).flatMap (obR F G)
def obU (F G : Fct) (a b i : Nat) : List (Ent Int) := (List.range a).flatMap (obR F G) ++ ((List.range b).flatMap (obH F G a) ++ ((homTo F.T (at0 F.o (a : Int)) (at0 G.o (b : Int)) F.T.s.length).take i).map fun h => ((a : Int), (b : Int), h))
theorem obU_pre {F G : Fct} {a b i : Nat} (ha : a < F.o.length) (hb : b < G.o.length) (hi : i < (homTo F.T (at0 F.o (a : Int)) (at0 G.o (b : Int)) F.T.s.length).length) :
    (obU F G a b i ++ [((a : Int), (b : Int), at0 (homTo F.T (at0 F.o (a : Int)) (at0 G.o (b : Int)) F.T.s.length) (i : Int))]) <+: obL F G := by
  unfold obU; rw [List.append_assoc, List.append_assoc]
  exact cm_range (cm_range (cm_map (g := fun h => ((a : Int), (b : Int), h)) hi) hb) ha
theorem obU_succ {F G : Fct} {a b i : Nat} (hi : i < (homTo F.T (at0 F.o (a : Int)) (at0 G.o (b : Int)) F.T.s.length).length) : obU F G a b i ++ [((a : Int), (b : Int), at0 (homTo F.T (at0 F.o (a : Int)) (at0 G.o (b : Int)) F.T.s.length) (i : Int))] = obU F G a b (i + 1) := by
  unfold obU; rw [List.append_assoc, List.append_assoc, cm_mapS (fun h => ((a : Int), (b : Int), h)) hi]
theorem obU_b {F G : Fct} {a b : Nat} : obU F G a b (homTo F.T (at0 F.o (a : Int)) (at0 G.o (b : Int)) F.T.s.length).length = obU F G a (b + 1) 0 := by
  unfold obU; rw [List.take_length, cm_rangeS, List.take_zero, List.map_nil, List.append_nil]; rfl
theorem obU_a {F G : Fct} {a : Nat} : obU F G a G.o.length 0 = obU F G (a + 1) 0 0 := by
  unfold obU; rw [cm_rangeS, List.take_zero, List.map_nil, List.append_nil, List.take_zero, List.map_nil, List.append_nil, List.range_zero, List.flatMap_nil, List.append_nil]; rfl
theorem obU_0 {F G : Fct} : obU F G 0 0 0 = [] := by simp [obU]
theorem obU_end {F G : Fct} : obU F G F.o.length 0 0 = obL F G := by simp [obU, obL]
theorem obL_mem {F G : Fct} {x : Ent Int} : x ∈ obL F G ↔ (0 ≤ x.1 ∧ x.1 < F.o.length) ∧ (0 ≤ x.2.1 ∧ x.2.1 < G.o.length) ∧ (0 ≤ x.2.2 ∧ x.2.2 < F.T.s.length) ∧ at0 F.T.s x.2.2 = at0 F.o x.1 ∧ at0 F.T.t x.2.2 = at0 G.o x.2.1 := by
  obtain ⟨a, b, h⟩ := x
  simp only [obL, obR, obH, List.mem_flatMap, List.mem_range, List.mem_map, Prod.mk.injEq, mem_homTo]
  constructor
  · rintro ⟨a', ha, b', hb, h', ⟨j, hj, rfl, e1, e2⟩, rfl, rfl, rfl⟩
    exact ⟨⟨by omega, by omega⟩, ⟨by omega, by omega⟩, ⟨by omega, by omega⟩, e1, e2⟩
  · rintro ⟨⟨a0, a1⟩, ⟨b0, b1⟩, ⟨h0, h1⟩, e1, e2⟩
    obtain ⟨a', rfl⟩ := Int.eq_ofNat_of_zero_le a0
    obtain ⟨b', rfl⟩ := Int.eq_ofNat_of_zero_le b0
    obtain ⟨j, rfl⟩ := Int.eq_ofNat_of_zero_le h0
    exact ⟨a', by omega, b', by omega, _, ⟨j, by omega, rfl, e1, e2⟩, rfl, rfl, rfl⟩
theorem cm_flen {β : Type} {f : Nat → List β} {m : Nat} (h : ∀ i, (f i).length ≤ m) : ∀ k : Nat, ((List.range k).flatMap f).length ≤ k * m
  | 0 => by simp
  | k + 1 => by rw [cm_rangeS, List.length_append, Nat.succ_mul]; have := cm_flen h k; have := h k; omega
theorem cm_flenT {β : Type} {f : Int → List β} {m : Nat} (h : ∀ i, (f i).length ≤ m) : ∀ xs : List Int, (xs.flatMap f).length ≤ xs.length * m
  | [] => by simp
  | x :: xs => by rw [List.flatMap_cons, List.length_append, List.length_cons, Nat.succ_mul]; have := cm_flenT h xs; have := h x; omega
theorem obL_len {F G : Fct} (hf : F.o.length ≤ 8) (hg : G.o.length ≤ 8) (ht : F.T.s.length ≤ 40) : (obL F G).length ≤ 2560 := by
  have h1 : ∀ a b, (obH F G a b).length ≤ 40 := fun a b => by unfold obH; rw [List.length_map]; have := homTo_len F.T (at0 F.o (a : Int)) (at0 G.o (b : Int)) F.T.s.length; omega
  have h2 : ∀ a, (obR F G a).length ≤ 320 := fun a => by have := cm_flen (h1 a) G.o.length; unfold obR; omega
  have := cm_flen h2 F.o.length; unfold obL; omega
noncomputable def cmB (F G : Fct) (h k u v : Int) : Bool := bP (F.T.th (at0 F.a u) k = F.T.th h (at0 G.a v))
noncomputable def paU (F G : Fct) (x y : Ent Int) (u : Int) : List (Int × Int) := ((homTo G.S x.2.1 y.2.1 G.S.s.length).filter (cmB F G x.2.2 y.2.2 u)).map fun v => (u, v)
noncomputable def paL (F G : Fct) (x y : Ent Int) : List (Int × Int) := (homTo F.S x.1 y.1 F.S.s.length).flatMap (paU F G x y)
noncomputable def paI (F G : Fct) (x y : Ent Int) (i j : Nat) : List (Int × Int) := ((homTo F.S x.1 y.1 F.S.s.length).take i).flatMap (paU F G x y) ++ (((homTo G.S x.2.1 y.2.1 G.S.s.length).take j).filter (cmB F G x.2.2 y.2.2 (at0 (homTo F.S x.1 y.1 F.S.s.length) (i : Int)))).map fun v => (at0 (homTo F.S x.1 y.1 F.S.s.length) (i : Int), v)
theorem paI_t {F G : Fct} {x y : Ent Int} {i j : Nat} (hj : j < (homTo G.S x.2.1 y.2.1 G.S.s.length).length) (h : cmB F G x.2.2 y.2.2 (at0 (homTo F.S x.1 y.1 F.S.s.length) (i : Int)) (at0 (homTo G.S x.2.1 y.2.1 G.S.s.length) (j : Int)) = true) :
    paI F G x y i j ++ [(at0 (homTo F.S x.1 y.1 F.S.s.length) (i : Int), at0 (homTo G.S x.2.1 y.2.1 G.S.s.length) (j : Int))] = paI F G x y i (j + 1) := by
  unfold paI; rw [List.append_assoc, cm_filT (g := fun v => (at0 (homTo F.S x.1 y.1 F.S.s.length) (i : Int), v)) hj h]
theorem paI_f {F G : Fct} {x y : Ent Int} {i j : Nat} (hj : j < (homTo G.S x.2.1 y.2.1 G.S.s.length).length) (h : cmB F G x.2.2 y.2.2 (at0 (homTo F.S x.1 y.1 F.S.s.length) (i : Int)) (at0 (homTo G.S x.2.1 y.2.1 G.S.s.length) (j : Int)) = false) : paI F G x y i j = paI F G x y i (j + 1) := by
  unfold paI; rw [cm_filF (g := fun v => (at0 (homTo F.S x.1 y.1 F.S.s.length) (i : Int), v)) hj h]
theorem paI_i {F G : Fct} {x y : Ent Int} {i : Nat} (hi : i < (homTo F.S x.1 y.1 F.S.s.length).length) : paI F G x y i (homTo G.S x.2.1 y.2.1 G.S.s.length).length = paI F G x y (i + 1) 0 := by
  unfold paI; rw [List.take_length, cm_takeS _ hi, List.take_zero, List.filter_nil, List.map_nil, List.append_nil]; rfl
theorem paI_0 {F G : Fct} {x y : Ent Int} : paI F G x y 0 0 = [] := by simp [paI]
theorem paI_end {F G : Fct} {x y : Ent Int} : paI F G x y (homTo F.S x.1 y.1 F.S.s.length).length 0 = paL F G x y := by simp [paI, paL]
theorem paI_pre {F G : Fct} {x y : Ent Int} {i j : Nat} (hi : i < (homTo F.S x.1 y.1 F.S.s.length).length) : paI F G x y i j <+: paL F G x y := by
  unfold paI paL
  exact cm_flat hi (cm_fil (g := fun v => (at0 (homTo F.S x.1 y.1 F.S.s.length) (i : Int), v)) (p := cmB F G x.2.2 y.2.2 (at0 (homTo F.S x.1 y.1 F.S.s.length) (i : Int))) j)
theorem paL_mem {F G : Fct} {x y : Ent Int} {p : Int × Int} : p ∈ paL F G x y ↔ ((0 ≤ p.1 ∧ p.1 < F.S.s.length) ∧ at0 F.S.s p.1 = x.1 ∧ at0 F.S.t p.1 = y.1) ∧ ((0 ≤ p.2 ∧ p.2 < G.S.s.length) ∧ at0 G.S.s p.2 = x.2.1 ∧ at0 G.S.t p.2 = y.2.1) ∧ F.T.th (at0 F.a p.1) y.2.2 = F.T.th x.2.2 (at0 G.a p.2) := by
  obtain ⟨u, v⟩ := p
  simp only [paL, paU, List.mem_flatMap, List.mem_map, List.mem_filter, Prod.mk.injEq, mem_homTo, cmB, bP_iff]
  constructor
  · rintro ⟨u', ⟨i, hi, rfl, a1, a2⟩, v', ⟨⟨j, hj, rfl, b1, b2⟩, hc⟩, rfl, rfl⟩
    exact ⟨⟨⟨by omega, by omega⟩, a1, a2⟩, ⟨⟨by omega, by omega⟩, b1, b2⟩, hc⟩
  · rintro ⟨⟨⟨u0, u1⟩, a1, a2⟩, ⟨⟨v0, v1⟩, b1, b2⟩, hc⟩
    obtain ⟨i, rfl⟩ := Int.eq_ofNat_of_zero_le u0
    obtain ⟨j, rfl⟩ := Int.eq_ofNat_of_zero_le v0
    exact ⟨_, ⟨i, by omega, rfl, a1, a2⟩, _, ⟨⟨j, by omega, rfl, b1, b2⟩, hc⟩, rfl, rfl⟩
theorem paL_len {F G : Fct} (x y : Ent Int) (hf : F.S.s.length ≤ 40) (hg : G.S.s.length ≤ 40) : (paL F G x y).length ≤ 1600 := by
  have h1 : ∀ u, (paU F G x y u).length ≤ 40 := fun u => by
    unfold paU; rw [List.length_map]
    have := List.length_filter_le (cmB F G x.2.2 y.2.2 u) (homTo G.S x.2.1 y.2.1 G.S.s.length)
    have := homTo_len G.S x.2.1 y.2.1 G.S.s.length; omega
  have h2 := cm_flenT h1 (homTo F.S x.1 y.1 F.S.s.length)
  have h3 := homTo_len F.S x.1 y.1 F.S.s.length
  have : (homTo F.S x.1 y.1 F.S.s.length).length * 40 ≤ 40 * 40 := Nat.mul_le_mul_right _ (by omega)
  unfold paL; omega
noncomputable def arT (F G : Fct) (os : List (Ent Int)) (s t : Nat) : List (Ent (Int × Int)) := (paL F G (atE os (s : Int)) (atE os (t : Int))).map fun p => ((s : Int), (t : Int), p)
noncomputable def arS (F G : Fct) (os : List (Ent Int)) (s : Nat) : List (Ent (Int × Int)) := (List.range os.length).flatMap (arT F G os s)
noncomputable def arL (F G : Fct) (os : List (Ent Int)) : List (Ent (Int × Int)) := (List.range os.length).flatMap (arS F G os)
noncomputable def arU (F G : Fct) (os : List (Ent Int)) (s t : Nat) (ps : List (Int × Int)) : List (Ent (Int × Int)) := (List.range s).flatMap (arS F G os) ++ ((List.range t).flatMap (arT F G os s) ++ ps.map fun p => ((s : Int), (t : Int), p))
theorem arU_pre {F G : Fct} {os : List (Ent Int)} {s t : Nat} {ps : List (Int × Int)} (hs : s < os.length) (ht : t < os.length) (hp : ps <+: paL F G (atE os (s : Int)) (atE os (t : Int))) : arU F G os s t ps <+: arL F G os := by
  unfold arU
  exact cm_range (cm_range (List.IsPrefix.map _ hp) ht) hs
theorem arU_snoc {F G : Fct} {os : List (Ent Int)} {s t : Nat} {ps : List (Int × Int)} {p : Int × Int} : arU F G os s t ps ++ [((s : Int), (t : Int), p)] = arU F G os s t (ps ++ [p]) := by
  unfold arU; rw [List.append_assoc, List.append_assoc, List.map_append]; rfl
theorem arU_t {F G : Fct} {os : List (Ent Int)} {s t : Nat} : arU F G os s t (paL F G (atE os (s : Int)) (atE os (t : Int))) = arU F G os s (t + 1) [] := by
  unfold arU; rw [cm_rangeS, List.map_nil, List.append_nil]; rfl
theorem arU_s {F G : Fct} {os : List (Ent Int)} {s : Nat} : arU F G os s os.length [] = arU F G os (s + 1) 0 [] := by
  unfold arU; rw [cm_rangeS]; simp [arS]
theorem arU_0 {F G : Fct} {os : List (Ent Int)} : arU F G os 0 0 [] = [] := by simp [arU]
theorem arU_end {F G : Fct} {os : List (Ent Int)} : arU F G os os.length 0 [] = arL F G os := by simp [arU, arL]
theorem arL_mem {F G : Fct} {os : List (Ent Int)} {e : Ent (Int × Int)} : e ∈ arL F G os ↔ (0 ≤ e.1 ∧ e.1 < os.length) ∧ (0 ≤ e.2.1 ∧ e.2.1 < os.length) ∧ e.2.2 ∈ paL F G (atE os e.1) (atE os e.2.1) := by
  obtain ⟨s, t, p⟩ := e
  simp only [arL, arS, arT, List.mem_flatMap, List.mem_range, List.mem_map, Prod.mk.injEq]
  constructor
  · rintro ⟨s', hs, t', ht, p', hp, rfl, rfl, rfl⟩
    exact ⟨⟨by omega, by omega⟩, ⟨by omega, by omega⟩, hp⟩
  · rintro ⟨⟨s0, s1⟩, ⟨t0, t1⟩, hp⟩
    obtain ⟨s', rfl⟩ := Int.eq_ofNat_of_zero_le s0
    obtain ⟨t', rfl⟩ := Int.eq_ofNat_of_zero_le t0
    exact ⟨s', by omega, t', by omega, p, hp, rfl, rfl, rfl⟩
theorem paL_nodup (F G : Fct) (x y : Ent Int) : (paL F G x y).Nodup := by
  unfold paL
  refine cm_nodup (cm_hom1 ..) (fun u _ => ?_) (fun u _ v _ z hz hw => ?_)
  · unfold paU
    refine List.Pairwise.map _ ?_ (List.Pairwise.filter _ (cm_hom1 ..))
    intro a b h e; exact h (Prod.mk.inj e).2
  · unfold paU at hz hw
    obtain ⟨_, _, rfl⟩ := List.mem_map.1 hz
    obtain ⟨_, _, e⟩ := List.mem_map.1 hw
    exact (Prod.mk.inj e).1.symm
theorem arL_nodup (F G : Fct) (os : List (Ent Int)) : (arL F G os).Nodup := by
  unfold arL
  refine cm_nodup List.nodup_range (fun s _ => ?_) (fun s _ s' _ z hz hw => ?_)
  · unfold arS
    refine cm_nodup List.nodup_range (fun t _ => ?_) (fun t _ t' _ z hz hw => ?_)
    · unfold arT
      refine List.Pairwise.map _ ?_ (paL_nodup ..)
      intro a b h e; exact h (Prod.mk.inj (Prod.mk.inj e).2).2
    · unfold arT at hz hw
      obtain ⟨_, _, rfl⟩ := List.mem_map.1 hz
      obtain ⟨_, _, e⟩ := List.mem_map.1 hw
      have := (Prod.mk.inj (Prod.mk.inj e).2).1; omega
  · unfold arS arT at hz hw
    obtain ⟨_, _, hz⟩ := List.mem_flatMap.1 hz
    obtain ⟨_, _, hw⟩ := List.mem_flatMap.1 hw
    obtain ⟨_, _, rfl⟩ := List.mem_map.1 hz
    obtain ⟨_, _, e⟩ := List.mem_map.1 hw
    have := (Prod.mk.inj e).1; omega
theorem arL_len {F G : Fct} {os : List (Ent Int)} {m : Nat} (ho : os.length ≤ m) (hf : F.S.s.length ≤ 40) (hg : G.S.s.length ≤ 40) : (arL F G os).length ≤ m * (m * 1600) := by
  have h1 : ∀ s t, (arT F G os s t).length ≤ 1600 := fun s t => by unfold arT; rw [List.length_map]; exact paL_len _ _ hf hg
  have h2 : ∀ s, (arS F G os s).length ≤ m * 1600 := fun s => Nat.le_trans (cm_flen (h1 s) os.length) (Nat.mul_le_mul_right 1600 ho)
  exact Nat.le_trans (cm_flen h2 os.length) (Nat.mul_le_mul_right (m * 1600) ho)
theorem cm_as {c : Cat} (hC : IsCat c) {f g h : Int} (f0 : 0 ≤ f) (f1 : f < c.s.length) (g0 : 0 ≤ g) (g1 : g < c.s.length) (h0 : 0 ≤ h) (h1 : h < c.s.length) (e1 : at0 c.t f = at0 c.s g) (e2 : at0 c.t g = at0 c.s h) : c.th (c.th f g) h = c.th f (c.th g h) := by
  obtain ⟨a, rfl⟩ := Int.eq_ofNat_of_zero_le f0
  obtain ⟨b, rfl⟩ := Int.eq_ofNat_of_zero_le g0
  obtain ⟨d, rfl⟩ := Int.eq_ofNat_of_zero_le h0
  exact Classical.not_not.1 fun hn => hC.assoc a b d (by omega) (by omega) (by omega) ⟨e1, e2, hn⟩
theorem cm_id {c : Cat} (hC : IsCat c) {f : Int} (f0 : 0 ≤ f) (f1 : f < c.s.length) : c.th (at0 c.e (at0 c.s f)) f = f ∧ c.th f (at0 c.e (at0 c.t f)) = f := by
  obtain ⟨a, rfl⟩ := Int.eq_ofNat_of_zero_le f0
  exact hC.idl a (by omega)
structure CspP (F G : Fct) : Prop where
  f : IsFct F
  g : IsFct G
  t : F.T = G.T
theorem fct_co {F : Fct} (h : IsFct F) {f g : Int} (f0 : 0 ≤ f) (f1 : f < F.S.s.length) (g0 : 0 ≤ g) (g1 : g < F.S.s.length) (e : at0 F.S.t f = at0 F.S.s g) : at0 F.a (F.S.th f g) = F.T.th (at0 F.a f) (at0 F.a g) := by
  obtain ⟨a, rfl⟩ := Int.eq_ofNat_of_zero_le f0
  obtain ⟨b, rfl⟩ := Int.eq_ofNat_of_zero_le g0
  exact h.co a b (by omega) (by omega) e
theorem fct_un {F : Fct} (h : IsFct F) {x : Int} (x0 : 0 ≤ x) (x1 : x < F.S.ob) : at0 F.a (at0 F.S.e x) = at0 F.T.e (at0 F.o x) := by
  obtain ⟨a, rfl⟩ := Int.eq_ofNat_of_zero_le x0
  exact h.un a (by omega)
theorem fct_en {F : Fct} (h : IsFct F) {f : Int} (f0 : 0 ≤ f) (f1 : f < F.S.s.length) : (0 ≤ at0 F.a f ∧ at0 F.a f < F.T.s.length) ∧ at0 F.T.s (at0 F.a f) = at0 F.o (at0 F.S.s f) ∧ at0 F.T.t (at0 F.a f) = at0 F.o (at0 F.S.t f) := by
  obtain ⟨a, rfl⟩ := Int.eq_ofNat_of_zero_le f0
  have := h.la
  exact ⟨allP_at h.ia (k := a) (by omega), h.en a (by omega)⟩
theorem obP_at {F G : Fct} {x : Int} (x0 : 0 ≤ x) (x1 : x < (obL F G).length) : (0 ≤ (atE (obL F G) x).1 ∧ (atE (obL F G) x).1 < F.o.length) ∧ (0 ≤ (atE (obL F G) x).2.1 ∧ (atE (obL F G) x).2.1 < G.o.length) ∧ (0 ≤ (atE (obL F G) x).2.2 ∧ (atE (obL F G) x).2.2 < F.T.s.length) ∧ at0 F.T.s (atE (obL F G) x).2.2 = at0 F.o (atE (obL F G) x).1 ∧ at0 F.T.t (atE (obL F G) x).2.2 = at0 G.o (atE (obL F G) x).2.1 := by
  obtain ⟨n, rfl⟩ := Int.eq_ofNat_of_zero_le x0
  exact obL_mem.1 (atE_mem (by omega))
noncomputable def cmU (F G : Fct) (x : Nat) : Int × Int := (at0 F.S.e (atE (obL F G) (x : Int)).1, at0 G.S.e (atE (obL F G) (x : Int)).2.1)
def cmT (F G : Fct) (p q : Int × Int) : Int × Int := (F.S.th p.1 q.1, G.S.th p.2 q.2)
theorem cmU_mem {F G : Fct} (h : CspP F G) {x : Nat} (hx : x < (obL F G).length) : ((x : Int), (x : Int), cmU F G x) ∈ arL F G (obL F G) := by
  have hP := obP_at (F := F) (G := G) (x := (x : Int)) (by omega) (by omega)
  obtain ⟨⟨a0, a1⟩, ⟨b0, b1⟩, ⟨h0, h1⟩, e1, e2⟩ := hP
  have lf := h.f.lo; have lg := h.g.lo
  have i1 := ShapeP.idn (isCat_of h.f.cs).toShapeP a0 (by omega)
  have i2 := ShapeP.idn (isCat_of h.g.cs).toShapeP b0 (by omega)
  have x0 : (0 : Int) ≤ x := Int.natCast_nonneg x
  have x1 : (x : Int) < (obL F G).length := by omega
  refine arL_mem.2 ⟨⟨x0, x1⟩, ⟨x0, x1⟩, paL_mem.2 ⟨⟨⟨i1.1, i1.2.1⟩, i1.2.2⟩, ⟨⟨i2.1, i2.2.1⟩, i2.2.2⟩, ?_⟩⟩
  have u1 := fct_un h.f a0 (by omega)
  have u2 := fct_un h.g b0 (by omega)
  have hi := cm_id (isCat_of h.f.ct) h0 h1
  have k1 : F.T.th (at0 F.a (cmU F G x).1) (atE (obL F G) (x : Int)).2.2 = (atE (obL F G) (x : Int)).2.2 := by
    show F.T.th (at0 F.a (at0 F.S.e _)) _ = _
    rw [u1]; rw [e1] at hi; exact hi.1
  have k2 : F.T.th (atE (obL F G) (x : Int)).2.2 (at0 G.a (cmU F G x).2) = (atE (obL F G) (x : Int)).2.2 := by
    show F.T.th _ (at0 G.a (at0 G.S.e _)) = _
    rw [u2, ← h.t]; rw [e2] at hi; exact hi.2
  exact k1.trans k2.symm
theorem cmT_mem {F G : Fct} (h : CspP F G) {e f : Ent (Int × Int)} (he : e ∈ arL F G (obL F G)) (hf : f ∈ arL F G (obL F G)) (hj : e.2.1 = f.1) : (e.1, f.2.1, cmT F G e.2.2 f.2.2) ∈ arL F G (obL F G) := by
  obtain ⟨s, t, u, v⟩ := e
  obtain ⟨t', r, u', v'⟩ := f
  have hj : t = t' := hj
  subst hj
  obtain ⟨hs, ht, hp⟩ := arL_mem.1 he
  obtain ⟨_, hr, hq⟩ := arL_mem.1 hf
  obtain ⟨⟨⟨u0, u1⟩, us, ut⟩, ⟨⟨v0, v1⟩, vs, vt⟩, hc⟩ := paL_mem.1 hp
  obtain ⟨⟨⟨p0, p1⟩, ps, pt⟩, ⟨⟨q0, q1⟩, qs, qt⟩, hd⟩ := paL_mem.1 hq
  have hs := (show 0 ≤ s ∧ s < _ from hs); have ht := (show 0 ≤ t ∧ t < _ from ht); have hr := (show 0 ≤ r ∧ r < _ from hr)
  have S := obP_at hs.1 hs.2; have T := obP_at ht.1 ht.2; have R := obP_at hr.1 hr.2
  obtain ⟨⟨sa0, sa1⟩, ⟨sb0, sb1⟩, ⟨sh0, sh1⟩, se1, se2⟩ := S
  obtain ⟨⟨ta0, ta1⟩, ⟨tb0, tb1⟩, ⟨th0, th1⟩, te1, te2⟩ := T
  obtain ⟨⟨ra0, ra1⟩, ⟨rb0, rb1⟩, ⟨rh0, rh1⟩, re1, re2⟩ := R
  have cF := isCat_of h.f.cs; have cG := isCat_of h.g.cs; have cT := isCat_of h.f.ct
  have A := th_ends cF.toShapeP u0 u1 p0 p1 (by rw [ut, ps])
  have B := th_ends cG.toShapeP v0 v1 q0 q1 (by rw [vt, qs])
  refine arL_mem.2 ⟨hs, hr, paL_mem.2 ⟨⟨A.1, A.2.1.trans us, A.2.2.trans pt⟩, ⟨B.1, B.2.1.trans vs, B.2.2.trans qt⟩, ?_⟩⟩
  show F.T.th (at0 F.a (F.S.th u u')) _ = F.T.th _ (at0 G.a (G.S.th v v'))
  rw [fct_co h.f u0 u1 p0 p1 (by rw [ut, ps]), fct_co h.g v0 v1 q0 q1 (by rw [vt, qs]), ← h.t]
  have U := fct_en h.f u0 u1; have P := fct_en h.f p0 p1
  have V := fct_en h.g v0 v1; have Q := fct_en h.g q0 q1
  rw [← h.t] at V Q
  have ut' : at0 F.S.t u = (atE (obL F G) t).1 := ut
  have us' : at0 F.S.s u = (atE (obL F G) s).1 := us
  have ps' : at0 F.S.s u' = (atE (obL F G) t).1 := ps
  have pt' : at0 F.S.t u' = (atE (obL F G) r).1 := pt
  have vs' : at0 G.S.s v = (atE (obL F G) s).2.1 := vs
  have vt' : at0 G.S.t v = (atE (obL F G) t).2.1 := vt
  have qs' : at0 G.S.s v' = (atE (obL F G) t).2.1 := qs
  have qt' : at0 G.S.t v' = (atE (obL F G) r).2.1 := qt
  have hc : F.T.th (at0 F.a u) (atE (obL F G) t).2.2 = F.T.th (atE (obL F G) s).2.2 (at0 G.a v) := hc
  have hd : F.T.th (at0 F.a u') (atE (obL F G) r).2.2 = F.T.th (atE (obL F G) t).2.2 (at0 G.a v') := hd
  show F.T.th (F.T.th (at0 F.a u) (at0 F.a u')) (atE (obL F G) r).2.2 = F.T.th (atE (obL F G) s).2.2 (F.T.th (at0 G.a v) (at0 G.a v'))
  rw [cm_as cT U.1.1 U.1.2 P.1.1 P.1.2 rh0 rh1 (by rw [U.2.2, P.2.1, ut', ps']) (by rw [P.2.2, re1, pt']), hd, ← cm_as cT U.1.1 U.1.2 th0 th1 Q.1.1 Q.1.2 (by rw [U.2.2, te1, ut']) (by rw [te2, Q.2.1, qs']), hc, cm_as cT sh0 sh1 V.1.1 V.1.2 Q.1.1 Q.1.2 (by rw [se2, V.2.1, vs']) (by rw [V.2.2, Q.2.1, vt', qs'])]
noncomputable def commaM (F G : Fct) : Cat := buildE ((obL F G).length : Int) (arL F G (obL F G)) (cmU F G) (cmT F G)
end Go.Proofs.Ytpcabkdkdnchaaa
set_option linter.unusedSimpArgs false
set_option linter.unusedVariables false
set_option linter.unusedSectionVars false
namespace Go.Proofs.Ytpcabkdkdnchaaa
open Go.RowKit
section
variable {w0 : World} {is : List Itm} {ops : Array Oper} {Q : Exit → Act → World → Prop} {o : Oper} {rest : List Oper} {N : Frm} {e : Env} {v : Value} {d : Nat} {K : Act → World → Prop}
end
end Go.Proofs.Ytpcabkdkdnchaaa
set_option linter.unusedSimpArgs false
set_option linter.unusedVariables false
set_option linter.unusedSectionVars false
namespace Go.Proofs.Ytpcabkdkdnchaaa
open Go.RowKit
def FitP (c : Cat) : Prop := c.ob ≤ 8 ∧ c.s.length ≤ 40
set_option maxHeartbeats 1000000 in
set_option maxRecDepth 100000 in
theorem specFits_any (w : World) (v : Value) (c : Cat) (h : RdC w v c) :
  Calls Try.prog 47 #[v] w (RetB w (bP (FitP c))) := by
 have h0 := h
 obtain ⟨va, vb, vc, vd, ve, vf, vg, vh, rfl, h1, h2, h3, h4, _⟩ := h.lists
 go_enter Try.func47, Try.ntmps47
 refine gc_enter (N := 12) rfl (look_cons (k := 0) rfl (look_nil _)) ?_
 refine gc_sr fun K1 hK1 => ?_
 refine gop fun K3 hK3 => ?_
 refine go_box rfl rfl rfl rfl rfl ?_
 intro B2
 refine hK3 _ _ ?_
 refine gas ?_
 refine gnt (hK1 _ _ ?_)
 refine gc_sr fun K4 hK4 => ?_
 refine gv (qtf Try.underlying29 (z := 0) (off := 0)) ?_
 refine gv (qtl Try.underlying2 (n := 0)) ?_
 refine gv (qt_leq rfl rfl rfl) ?_
 refine g_splitv (.free rfl) rfl rfl (qt_move rfl rfl) (fun hs1_3 => ?_) (fun hs1_3 => ?_)
 ·try simp only [sA] at hs1_3
  refine gvh (qtf Try.underlying29 (z := 0) (off := 1)) ?_
  refine gvh (qtl Try.underlying22 (n := 0)) ?_
  refine gvh (qln (fun w M => lenV_rd h1)) ?_
  refine gvh (qt_leq rfl rfl rfl) ?_
  refine gv (qt_pick_t rfl rfl rfl) ?_
  refine gas ?_
  refine gnt (hK4 _ _ ?_)
  refine gc_ret ?_
  refine ret_1 rfl rfl  (fun w M => ?_)
  rw [show bP (FitP c) = decide ((c.s.length : Int) ≤ 40) from by rw [← bP_dec]; exact bP_congr ⟨fun h => by have := h.2; omega, fun h => ⟨by omega, by omega⟩⟩]; exact ⟨rfl, M.1⟩
 ·try simp only [sA] at hs1_3
  refine gsk ?_
  refine gsk ?_
  refine gsk ?_
  refine gsk ?_
  refine gv (qt_pick_f rfl rfl rfl) ?_
  refine gas ?_
  refine gnt (hK4 _ _ ?_)
  refine gc_ret ?_
  refine ret_1 rfl rfl  (fun w M => ?_)
  rw [bP_f (fun h : FitP c => by have := h.1; omega)]; exact ⟨rfl, M.1⟩
end Go.Proofs.Ytpcabkdkdnchaaa
set_option linter.unusedSimpArgs false
set_option linter.unusedVariables false
set_option linter.unusedSectionVars false
namespace Go.Proofs.Ytpcabkdkdnchaaa
open Go.RowKit
def row3 (e : Ent Int) : List Int := [e.1, e.2.1, e.2.2]
def row4 (e : Ent (Int × Int)) : List Int := [e.1, e.2.1, e.2.2.1, e.2.2.2]
theorem row4_inj {e f : Ent (Int × Int)} (h : row4 e = row4 f) : e = f := by
  obtain ⟨a, b, c, d⟩ := e; obtain ⟨a', b', c', d'⟩ := f
  simp only [row4, List.cons.injEq, and_true] at h
  obtain ⟨rfl, rfl, rfl, rfl⟩ := h; rfl
theorem row2_map {α : Type} [Inhabited α] {r : Ent α → List Int} {es : List (Ent α)} {i : Nat} (h : i < es.length) : row2 (es.map r) (i : Int) = r (atE es (i : Int)) := by
  unfold row2
  rw [Int.toNat_natCast, List.getD_eq_getElem?_getD, List.getElem?_map, List.getElem?_eq_getElem h, atE_eq h]; rfl
def findR (rows : List (List Int)) (l : List Int) : Int := if l ∈ rows then (rows.idxOf l : Int) else -1
theorem findR_f {rows : List (List Int)} {l : List Int} (h : l ∉ rows) : findR rows l = -1 := if_neg h
theorem findR_at {rows : List (List Int)} {l : List Int} {i : Nat} (h : i < rows.length) (he : row2 rows (i : Int) = l) (hn : l ∉ rows.take i) : findR rows l = i := by
  have e : rows[i] = l := by rw [← he]; unfold row2; rw [Int.toNat_natCast, List.getD_eq_getElem?_getD, List.getElem?_eq_getElem h]; rfl
  have hs : rows = rows.take i ++ l :: rows.drop (i + 1) := by rw [← e, ← List.drop_eq_getElem_cons h, List.take_append_drop]
  have hm : l ∈ rows := by rw [← e]; exact List.getElem_mem h
  unfold findR; rw [if_pos hm]
  have : rows.idxOf l = i := by
    have h1 : (rows.take i ++ l :: rows.drop (i + 1)).idxOf l = i := by
      rw [List.idxOf_append, if_neg hn, List.idxOf_cons_self, List.length_take]; omega
    rw [← hs] at h1; exact h1
  rw [this]
theorem notin_take {rows : List (List Int)} {l : List Int} {i : Nat} (h : i < rows.length) (he : ¬ row2 rows (i : Int) = l) (hn : l ∉ rows.take i) : l ∉ rows.take (i + 1) := by
  rw [List.take_succ_eq_append_getElem h]
  intro hm
  rcases List.mem_append.1 hm with hm | hm
  · exact hn hm
  · refine he ?_
    rw [List.mem_singleton.1 hm]; unfold row2; rw [Int.toNat_natCast, List.getD_eq_getElem?_getD, List.getElem?_eq_getElem h]; rfl
theorem idxOf_mapC {α β : Type} [BEq α] [LawfulBEq α] [BEq β] [LawfulBEq β] {f : α → β} (hf : ∀ a b, f a = f b → a = b) (x : α) : ∀ xs : List α, (xs.map f).idxOf (f x) = xs.idxOf x
  | [] => rfl
  | a :: xs => by
    rw [List.map_cons, List.idxOf_cons, List.idxOf_cons, idxOf_mapC hf x xs]
    by_cases h : a = x
    · subst h
      rw [show (f a == f a) = true from beq_self_eq_true _, show (a == a) = true from beq_self_eq_true _]
    · rw [show (f a == f x) = false from beq_eq_false_iff_ne.2 fun e => h (hf _ _ e), show (a == x) = false from beq_eq_false_iff_ne.2 h]
theorem findR_posG {α : Type} [DecidableEq α] {f : Ent α → List Int} (hf : ∀ a b, f a = f b → a = b) {es : List (Ent α)} {e : Ent α} (h : e ∈ es) : findR (es.map f) (f e) = posE es e := by
  unfold findR posE
  rw [if_pos h, if_pos (List.mem_map.2 ⟨e, h, rfl⟩), idxOf_mapC hf]
theorem findR_pos {es : List (Ent (Int × Int))} {e : Ent (Int × Int)} (h : e ∈ es) : findR (es.map row4) (row4 e) = posE es e := findR_posG (fun _ _ => row4_inj) h
def colR (rows : List (List Int)) (k : Int) : List Int := rows.map fun r => at0 r k
theorem colR_len (rows : List (List Int)) (k : Int) : (colR rows k).length = rows.length := by simp [colR]
theorem colR_at {rows : List (List Int)} {k : Int} {i : Nat} (h : i < rows.length) : at0 (colR rows k) (i : Int) = at0 (row2 rows (i : Int)) k := by
  unfold colR row2
  rw [at0_nat, List.getD_eq_getElem?_getD, List.getElem?_map, List.getElem?_eq_getElem h, Int.toNat_natCast, List.getD_eq_getElem?_getD, List.getElem?_eq_getElem h]; rfl
theorem colR_succ {rows : List (List Int)} {k : Int} {i : Nat} (h : i < rows.length) : colR (rows.take i) k ++ [at0 (row2 rows (i : Int)) k] = colR (rows.take (i + 1)) k := by
  unfold colR
  rw [List.take_succ_eq_append_getElem h, List.map_append]
  unfold row2; rw [Int.toNat_natCast, List.getD_eq_getElem?_getD, List.getElem?_eq_getElem h]; rfl
def spcE (rows : List (List Int)) (A B : Cat) (ls rs : List Int) (x : Nat) : Int := findR rows [(x : Int), (x : Int), at0 A.e (at0 ls (x : Int)), at0 B.e (at0 rs (x : Int))]
def spcM (rows : List (List Int)) (A B : Cat) (i j : Nat) : Int := if at0 (row2 rows (i : Int)) 1 = at0 (row2 rows (j : Int)) 0 then findR rows [at0 (row2 rows (i : Int)) 0, at0 (row2 rows (j : Int)) 1, A.th (at0 (row2 rows (i : Int)) 2) (at0 (row2 rows (j : Int)) 2), B.th (at0 (row2 rows (i : Int)) 3) (at0 (row2 rows (j : Int)) 3)] else -1
theorem spcM_t {rows : List (List Int)} {A B : Cat} {i j : Nat} (h : at0 (row2 rows (i : Int)) 1 = at0 (row2 rows (j : Int)) 0) : spcM rows A B i j = findR rows [at0 (row2 rows (i : Int)) 0, at0 (row2 rows (j : Int)) 1, A.th (at0 (row2 rows (i : Int)) 2) (at0 (row2 rows (j : Int)) 2), B.th (at0 (row2 rows (i : Int)) 3) (at0 (row2 rows (j : Int)) 3)] := if_pos h
theorem spcM_f {rows : List (List Int)} {A B : Cat} {i j : Nat} (h : ¬ at0 (row2 rows (i : Int)) 1 = at0 (row2 rows (j : Int)) 0) : spcM rows A B i j = -1 := if_neg h
noncomputable def spcC (n : Nat) (rows : List (List Int)) (A B : Cat) (ls rs : List Int) : Cat :=
  ⟨(n : Int), colR rows 0, colR rows 1, tabTo (spcE rows A B ls rs) n, if (n : Int) ≤ 8 ∧ rows.length ≤ 40 then rowsTo (fun i => tabTo (spcM rows A B i) rows.length) rows.length else []⟩
theorem spcC_fit (n : Nat) (rows : List (List Int)) (A B : Cat) (ls rs : List Int) (m : List (List Int)) (e : List Int) : FitP ⟨(n : Int), colR rows 0, colR rows 1, e, m⟩ ↔ (n : Int) ≤ 8 ∧ rows.length ≤ 40 :=
  ⟨fun h => ⟨h.1, by have h2 : (colR rows 0).length ≤ 40 := h.2; rwa [colR_len] at h2⟩, fun h => ⟨h.1, show (colR rows 0).length ≤ 40 by rw [colR_len]; exact h.2⟩⟩
theorem spc_comma {F G : Fct} (h : CspP F G) (hf : ((obL F G).length : Int) ≤ 8 ∧ (arL F G (obL F G)).length ≤ 40) :
    spcC (obL F G).length ((arL F G (obL F G)).map row4) F.S G.S (colR ((obL F G).map row3) 0) (colR ((obL F G).map row3) 1) = commaM F G := by
  obtain ⟨os, hos⟩ : ∃ os, os = obL F G := ⟨_, rfl⟩
  obtain ⟨qs, has⟩ : ∃ qs, qs = arL F G (obL F G) := ⟨_, rfl⟩
  have hc0 : colR (qs.map row4) 0 = tabTo (fun i => (atE qs (i : Int)).1) qs.length := tabTo_ext (by rw [colR_len, List.length_map]) fun i hi => by
    rw [colR_at (by rw [List.length_map]; exact hi), row2_map hi]; rfl
  have hc1 : colR (qs.map row4) 1 = tabTo (fun i => (atE qs (i : Int)).2.1) qs.length := tabTo_ext (by rw [colR_len, List.length_map]) fun i hi => by
    rw [colR_at (by rw [List.length_map]; exact hi), row2_map hi]; rfl
  have hU : ∀ x, x < os.length → ((x : Int), (x : Int), cmU F G x) ∈ qs := fun x hx => by rw [has]; exact cmU_mem h (by rw [← hos]; exact hx)
  have hT : ∀ e f, e ∈ qs → f ∈ qs → e.2.1 = f.1 → (e.1, f.2.1, cmT F G e.2.2 f.2.2) ∈ qs := fun e f he hf' hj => by rw [has] at he hf' ⊢; exact cmT_mem h he hf' hj
  unfold commaM buildE spcC
  rw [if_pos (by rw [List.length_map]; exact hf), ← has, ← hos, hc0, hc1, List.length_map]
  have e1 : tabTo (spcE (qs.map row4) F.S G.S (colR (os.map row3) 0) (colR (os.map row3) 1)) os.length = tabTo (fun x => posE qs ((x : Int), (x : Int), cmU F G x)) ((os.length : Int)).toNat := by
    rw [Int.toNat_natCast]
    refine tabTo_congr fun x hx => ?_
    unfold spcE
    rw [colR_at (by rw [List.length_map]; exact hx), colR_at (by rw [List.length_map]; exact hx), row2_map hx, ← findR_pos (hU x hx)]
    unfold row4 cmU; rw [← hos]; rfl
  have e2 : rowsTo (fun i => tabTo (spcM (qs.map row4) F.S G.S i) qs.length) qs.length = rowsTo (fun i => rowE qs (cmT F G) (atE qs (i : Int))) qs.length := by
    refine rowsTo_congr fun i hi => ?_
    unfold rowE
    refine tabTo_congr fun j hj => ?_
    unfold spcM cellE
    rw [row2_map hi, row2_map hj]
    by_cases hj' : (atE qs (i : Int)).2.1 = (atE qs (j : Int)).1
    · rw [if_pos hj', if_pos (show at0 (row4 (atE qs (i : Int))) 1 = at0 (row4 (atE qs (j : Int))) 0 from hj'), ← findR_pos (hT _ _ (atE_mem hi) (atE_mem hj) hj')]
      rfl
    · rw [if_neg hj', if_neg (show ¬ at0 (row4 (atE qs (i : Int))) 1 = at0 (row4 (atE qs (j : Int))) 0 from hj')]
  rw [e1, e2]
end Go.Proofs.Ytpcabkdkdnchaaa
set_option linter.unusedSimpArgs false
set_option linter.unusedVariables false
set_option linter.unusedSectionVars false
namespace Go.Proofs.Ytpcabkdkdnchaaa
open Go.RowKit
structure Lab0 (α : Type) where
  z : Nat
  lc : α → List Value
  tE : TypeId
  tS : TypeId
  bts : Nat
  zc : Value
  td : TypeDesc
  len : ∀ l, (lc l).length = z
  one : ∀ l, (lc l).all (·.oneCell') = true
  inf : (Try.prog.info? tE).map (fun i => (i.zero, i.size, i.bytes)) = some (some zc, z + 2, bts)
  zl : zc.cells.size = z + 2
  cap : Nat
  hc1 : 1 ≤ cap
  hc2 : cap ≤ 17592186044415
  hcb : cap * bts ≤ 140737488355328
  hz : z ≤ 64
  ud : Try.prog.underlying tE = some td
  row : td.isRow = true
  ul : Try.prog.underlying tS = some (.slice tE)
  el : Try.prog.elem tS = tE
variable {α : Type}
def enc0 (L : Lab0 α) (e : Ent α) : List Value := Value.int .i64 e.1 :: Value.int .i64 e.2.1 :: L.lc e.2.2
def encA0 (L : Lab0 α) (e : Ent α) : Value := .agg (enc0 L e).toArray
theorem enc_len0 (L : Lab0 α) (e : Ent α) : (enc0 L e).length = L.z + 2 := by simp [enc0, L.len]
theorem enc_one0 (L : Lab0 α) (e : Ent α) : (enc0 L e).all (·.oneCell') = true := by
  have := L.one e.2.2
  simp only [enc0, List.all_cons, this]; rfl
theorem lab_size0 (L : Lab0 α) : (Try.prog.info? L.tE).map (·.size) = some (L.z + 2) := by
  obtain ⟨i, hi, _, hs, _⟩ := info_parts L.inf
  simp [hi, hs]
theorem lab_ul0 (L : Lab0 α) : Try.prog.underlying L.tS = some (.slice (Try.prog.elem L.tS)) := by rw [L.el]; exact L.ul
theorem flat_at0 (L : Lab0 α) : ∀ (es : List (Ent α)) {j : Nat} (hj : j < es.length) {c : Nat}, c < L.z + 2 → (es.flatMap (enc0 L))[j * (L.z + 2) + c]? = (enc0 L es[j])[c]?
  | [], j, hj, _, _ => by simp at hj
  | e :: es, 0, _, c, hc => by rw [List.flatMap_cons, List.getElem?_append_left (by rw [enc_len0]; omega)]; simp
  | e :: es, j + 1, hj, c, hc => by
    rw [List.flatMap_cons, List.getElem?_append_right (by rw [enc_len0, Nat.succ_mul]; omega), enc_len0, show (j + 1) * (L.z + 2) + c - (L.z + 2) = j * (L.z + 2) + c from by rw [Nat.succ_mul]; omega]
    simpa using flat_at0 L es (j := j) (by simpa using hj) hc
def OwnE0 (L : Lab0 α) (v : Value) (es : List (Ent α)) (w : World) (S : Nat → Prop) : Prop := w.ownsRow 0 L.tE (L.z + 2) v es.length (es.flatMap (enc0 L)) ∧ es.length ≤ L.cap ∧ ∀ q, v.ownBlock = some q → S q
theorem ownE_loc0 (L : Lab0 α) (v : Value) (es : List (Ent α)) : Loc (OwnE0 L v es) where
  keep hs ha h := ⟨own_agree h.1 fun q hq e => ha q hq (h.2.2 q e), h.2.1, fun q hq => hs q (h.1.lt q hq).2 (h.2.2 q hq)⟩
def ownEI0 (L : Lab0 α) (v : Value) (es : List (Ent α)) : Itm := ⟨_, ownE_loc0 L v es⟩
def RdE0 (L : Lab0 α) (w : World) (v : Value) (es : List (Ent α)) : Prop :=
  ∃ (a : Option Addr) (cap : Nat), v = .slice a es.length cap ∧ es.length ≤ L.cap ∧
    (0 < es.length → ∃ b off, a = some ⟨b, off, none⟩ ∧ b < w.heap.size ∧ ∀ j (hj : j < es.length), w.rangeAt b (off + j * (L.z + 2)) (enc0 L es[j]))
theorem rdE_below0 {L : Lab0 α} {w w' : World} {v : Value} {es : List (Ent α)} (hb : Below w.heap.size w w') (h : RdE0 L w v es) : RdE0 L w' v es := by
  obtain ⟨a, cap, hv, hl, hc⟩ := h
  refine ⟨a, cap, hv, hl, fun h0 => ?_⟩
  obtain ⟨b, off, ha, hbs, hcell⟩ := hc h0
  exact ⟨b, off, ha, Nat.lt_of_lt_of_le hbs hb.size, fun j hj i u hu => (hb.cell (p := ⟨b, _, none⟩) hbs).trans (hcell j hj i u hu)⟩
theorem OwnE0.rd {L : Lab0 α} {w : World} {S : Nat → Prop} {v : Value} {es : List (Ent α)} (h : OwnE0 L v es w S) : RdE0 L w v es := by
  obtain ⟨h1, h2, h3⟩ := h
  rcases h1.2 with ⟨hv, hn⟩ | ⟨g, cap, cur, hv, _, hg, _⟩
  · exact ⟨none, 0, by rw [hv, hn], h2, fun h => by omega⟩
  · refine ⟨some ⟨g, 0, none⟩, cap, hv, h2, fun _ => ⟨g, 0, rfl, (Array.getElem?_eq_some_iff.1 hg).1, fun j hj c u hu => ?_⟩⟩
    have hc : c < L.z + 2 := by
      have := (List.getElem?_eq_some_iff.1 hu).1
      rwa [enc_len0] at this
    have hf := flat_at0 L es hj hc
    rw [hu] at hf
    have hlt := (List.getElem?_eq_some_iff.1 hf).1
    rw [Nat.zero_add]
    subst hv
    have := h1.cells (g := g) rfl (j * (L.z + 2) + c) u hf
    rw [Addr.add_mid, Nat.zero_add] at this
    exact this
theorem ownE_form0 {L : Lab0 α} {w : World} {S : Nat → Prop} {v : Value} {es : List (Ent α)} (h : OwnE0 L v es w S) : ∃ a cap, v = .slice a es.length cap := let ⟨a, cap, hv, _⟩ := h.rd; ⟨a, cap, hv⟩
@[irreducible] def atE0 [Inhabited α] (es : List (Ent α)) (i : Int) : Ent α := es.getD i.toNat default
def eltE0 (z : Nat) (v : Value) (i : Int) : Value := match v with | .slice (some a) _ _ => .pointer (some ⟨a.block, a.off + i.toNat * z, none⟩) | _ => .pointer none
section
variable {w0 : World} {is : List Itm} {ops : Array Oper} {Q : Exit → Act → World → Prop} {o : Oper} {rest : List Oper} {N : Frm} {e : Env} {v : Value} {d : Nat} {K : Act → World → Prop}
theorem mem_rdE0 {L : Lab0 α} {w : World} {es : List (Ent α)} (M : Mem w0 w is) (h : RdE0 L w0 v es) : RdE0 L w v es := rdE_below0 M.1 h
theorem mem_ownE0 {L : Lab0 α} {w : World} {n : Nat} {es : List (Ent α)} (M : Mem w0 w is) (h : is[n]? = some (ownEI0 L v es)) : RdE0 L w v es := by
  obtain ⟨S, _, hb⟩ := mem_get M h
  exact OwnE0.rd (S := S) hb
theorem lenV_E0 {L : Lab0 α} {w : World} {es : List (Ent α)} (h : RdE0 L w v es) : LenV v es.length := let ⟨a, cap, hv, _⟩ := h; ⟨a, cap, hv⟩
theorem lenA_E0 {L : Lab0 α} {w : World} {es : List (Ent α)} (h : RdE0 L w v es) : LenA v es.length := let ⟨a, cap, hv, _, hc⟩ := h; ⟨a, cap, hv, fun h0 => let ⟨b, off, ha, _⟩ := hc h0; ⟨b, off, ha⟩⟩
theorem qt_indexE0 (L : Lab0 α) {x y : Operand} {t : TypeId} {n : Nat} {i : Int} (hop : o.op = .indexAddr t x y) (hx : evo e x = some (v)) (hy : evo e y = some (.int .i64 i)) (ht : t = L.tS)
    (hl : ∀ w, Mem w0 w is → LenA v n) (h0 : 0 ≤ i) (h1 : i < (n : Int)) : QV w0 is o e (eltE0 (L.z + 2) v i) :=
  fun w ac M F => by
    subst ht
    have hx := F _ _ hx; have hy := F _ _ hy
    obtain ⟨a, cap, rfl, ha⟩ := hl w M
    obtain ⟨b, off, rfl⟩ := ha (by omega)
    have hI := info_parts L.inf
    obtain ⟨ii, hi, hz, hs, hb⟩ := hI
    simp only [execOp, hop, hx, hy, run_indexAt_slice _ _ _ _ _ _ _ (lab_ul0 L), L.el, h0, h1, and_self, if_true, sizeOf, typeInfo, hi, hs, eltE0, Sem.run_bind, Sem.run_pure, Result.andThen_ok, run_program, Addr.add_mid]
theorem qt_loadE0 [Inhabited α] (L : Lab0 α) {x : Operand} {t : TypeId} {u : Value} {es : List (Ent α)} {i : Int} (hop : o.op = .load t x) (hx : evo e x = some (eltE0 (L.z + 2) u i)) (ht : t = L.tE)
    (hr : ∀ w, Mem w0 w is → RdE0 L w u es) (h0 : 0 ≤ i) (h1 : i < es.length) : QV w0 is o e (encA0 L (atE0 es i)) :=
  fun w ac M F => by
    subst ht
    have hx := F _ _ hx
    obtain ⟨a, cap, rfl, _, hc⟩ := hr w M
    obtain ⟨b, off, rfl, _, hcell⟩ := hc (by omega)
    have hlt : i.toNat < es.length := by omega
    have hcc := hcell i.toNat hlt
    have he : atE0 es i = es[i.toNat] := by simp [atE0, List.getD_eq_getElem?_getD, List.getElem?_eq_getElem hlt]
    rw [← he] at hcc
    simp [execOp, hop, hx, eltE0, encA0, run_loadAt_mid w b (off + i.toNat * (L.z + 2)) L.tE (enc0 L (atE0 es i)) L.td hcc L.ud L.row (by rw [lab_size0, enc_len0])]
theorem go_sliceE10 (L : Lab0 α) {t : TypeId} {x : Operand} {a b : Int} {l : α} (hd : o.dst = some d) (hN : Nat.blt d N = true) (hop : o.op = .buildSlice t 1 #[(0, x)]) (hx : evo e x = some (.agg (Value.int .i64 a :: Value.int .i64 b :: L.lc l).toArray)) (ht : t = L.tS)
    (hk : ∀ B : Nat, GK w0 (is ++ [ownEI0 L (.slice (some ⟨B, 0, none⟩) 1 1) [(a, b, l)]]) N K ((d, .slice (some ⟨B, 0, none⟩) 1 1) :: e)) : GO w0 is N o e Q K := by
  subst ht
  obtain ⟨en, hen⟩ : ∃ en : Ent α, en = (a, b, l) := ⟨_, rfl⟩
  have hx : evo e x = some (encA0 L en) := by rw [hen]; exact hx
  rw [← hen] at hk
  intro w ac M F
  have hO : OwnE0 L (.slice (some ⟨w.heap.size, 0, none⟩) 1 1) [en] (w.alloc (.cells (enc0 L en).toArray L.tE)) (fun k => w.heap.size ≤ k) := by
    refine ⟨⟨by simp [enc_len0], .inr ⟨w.heap.size, 1, (enc0 L en).toArray, rfl, Nat.zero_le _, heap_alloc_new w _, Nat.le_refl _, by unfold maxLen; omega, by simp [enc_len0], ?_⟩⟩, L.hc1, fun q hq => by simp [Value.ownBlock] at hq; omega⟩
    simp [enc_len0]
    exact List.take_of_length_le (by simp [enc_len0])
  refine go_val (v := .slice (some ⟨w.heap.size, 0, none⟩) 1 1) (w' := w.alloc (.cells (enc0 L en).toArray L.tE)) hd hN F ?_ fun ac F => hk _ _ ac (mem_new M (below_alloc w _) hO) F
  intro ρ F; have hx := F _ _ hx
  obtain ⟨i, hi, hz, hs, hb⟩ := info_parts L.inf
  have hcl : (encA0 L en).cells = (enc0 L en).toArray := rfl
  have hsz : (enc0 L en).toArray.size = L.z + 2 := by simp [enc_len0]
  have h24 : ¬ 16777216 < L.z + 2 := by have := L.hz; omega
  have hcs : (encA0 L en).cells.size = L.z + 2 := by rw [hcl, hsz]
  have hfold := fold_set (enc0 L en) 0 (Array.map (fun x => L.zc.cells[x % L.zc.cells.size]!) (Array.range (L.z + 2))) (by simp [enc_len0])
  simp [execOp, hop, hx, Instr.buildSlice, run_underlying L.ul, sizeOf, typeInfo, hi, hs, Instr.fill, newRow, zeroValue, hz, Sem.run_bind, range1, h24]
  rw [if_neg (by rw [hcs]; omega), hcl]
  simp
  rw [hfold]; simp
theorem go_appendE0 (L : Lab0 α) {s x : Operand} {t : TypeId} {n m : Nat} {es : List (Ent α)} {u : Value} {en : Ent α} (hd : o.dst = some d) (hN : Nat.blt d N = true) (hop : o.op = .call { callee := .builtin .append, args := #[s, x], argTypes := #[t, t] }) (ht : t = L.tS)
    (hs : evo e s = some v) (hx : evo e x = some u) (hi : is[n]? = some (ownEI0 L v es)) (hj : is[m]? = some (ownEI0 L u [en])) (hn : es.length + 1 ≤ L.cap)
    (hk : ∀ a cap, GK w0 (is.set n (ownEI0 L (.slice a (es ++ [en]).length cap) (es ++ [en]))) N K ((d, .slice a (es ++ [en]).length cap) :: e)) : GO w0 is N o e Q K := by
  subst ht
  intro w ac M F
  obtain ⟨ad, cap, hu, _, hc⟩ := mem_ownE0 M hj
  obtain ⟨b, off, ha, _, hcell⟩ := hc (by simp)
  subst ha
  have hv : u = .slice (some ⟨b, off, none⟩) 1 cap := hu
  have h0 := hcell 0 (by simp)
  simp only [Nat.zero_mul, Nat.add_zero, List.getElem_cons_zero] at h0
  obtain ⟨S, hS, hp, hset⟩ := mem_set M hi
  have hp : OwnE0 L v es w S := hp
  obtain ⟨i, hi', hz, hs1, hb⟩ := info_parts L.inf
  have hc2 := L.hc2
  have hby : (es.length + 1) * L.bts ≤ 140737488355328 := Nat.le_trans (Nat.mul_le_mul_right _ hn) L.hcb
  obtain ⟨v', w', hr, hown, hgrow, _, hat⟩ := run_append_own_at (P := Try.prog) w 0 L.tS o.type L.tE i L.zc (L.z + 2) L.bts L.ul hi' hz hs1 hb L.zl (by omega) v es.length (es.flatMap (enc0 L)) hp.1 ⟨b, off, none⟩ 1 cap (enc0 L en) (by rw [enc_len0]; omega) (fun j z hz => by rw [Addr.add_mid]; exact h0 j z hz) (fun z hz => List.all_eq_true.1 (enc_one0 L en) z hz) (by unfold maxLen; omega) hby (Nat.zero_le _)
  have hO : OwnE0 L v' (es ++ [en]) w' (fun k => S k ∨ w.heap.size ≤ k) := by
    refine ⟨by simpa using hown, by simpa using hn, fun q hq => ?_⟩
    rcases hat with hat | hat
    · exact .inl (hp.2.2 q (by rw [← hat]; exact hq))
    · rw [hat] at hq
      simp only [Option.some.injEq] at hq
      exact .inr (by omega)
  obtain ⟨va, vc, rfl⟩ := ownE_form0 hO
  refine go_val (v := .slice va (es ++ [en]).length vc) (w' := w') hd hN F ?_ fun ac F => hk va vc w' ac (hset w' (ownEI0 L (.slice va (es ++ [en]).length vc) (es ++ [en])) (frS_grown hgrow hp.2.2) hO) F
  intro ρ F; have hs := F _ _ hs; have hx := F _ _ hx
  simp only [execOp, hop, resolve, invoke, builtin, Sem.run_bind, Sem.run_pure, Result.andThen_ok, List.map_toArray, List.map_cons, List.map_nil, hs, hx, hv]
  rw [hr]
  rfl
theorem mem_nilE0 (L : Lab0 α) {w : World} (M : Mem w0 w is) : Mem w0 w (is ++ [ownEI0 L (.slice none 0 0) []]) :=
  mem_new M (Below.refl _ _) ⟨World.ownsRow_nil w 0 _ _, Nat.zero_le _, fun q hq => by simp [Value.ownBlock] at hq⟩
theorem gc_nilE0 (L : Lab0 α) {c : Code} (hk : GC w0 (is ++ [ownEI0 L (.slice none 0 0) []]) N c Q e) : GC w0 is N c Q e := fun w a M F => hk w a (mem_nilE0 L M) F
end
end Go.Proofs.Ytpcabkdkdnchaaa
set_option linter.unusedSimpArgs false
set_option linter.unusedVariables false
set_option linter.unusedSectionVars false
namespace Go.Proofs.Ytpcabkdkdnchaaa
open Go.RowKit
theorem tail_loc (js : List Itm) : Loc (fun w S => Star js w S) where
  keep hs ha h := star_keep js hs ha h
def tailI (js : List Itm) : Itm := ⟨_, tail_loc js⟩
theorem star_tail_in : ∀ (L : List Itm) {F : List Itm} {w : World} {S : Nat → Prop}, Star (L ++ F) w S → Star (L ++ [tailI F]) w S
  | [], F, w, S, h => ⟨S, fun _ => False, fun _ h => h, fun _ h => h.elim, fun _ _ h => h, h, trivial⟩
  | _ :: L, F, w, S, ⟨S1, S2, k1, k2, kd, h1, h2⟩ => ⟨S1, S2, k1, k2, kd, h1, star_tail_in L h2⟩
theorem star_tail_out : ∀ (L : List Itm) {F : List Itm} {w : World} {S : Nat → Prop}, Star (L ++ [tailI F]) w S → Star (L ++ F) w S
  | [], F, w, S, ⟨S1, _, k1, _, _, h1, _⟩ => star_keep F (fun k _ h => k1 k h) agree_refl h1
  | _ :: L, F, w, S, ⟨S1, S2, k1, k2, kd, h1, h2⟩ => ⟨S1, S2, k1, k2, kd, h1, star_tail_out L h2⟩
theorem star_perm {is js : List Itm} (h : is.Perm js) : ∀ {w : World} {S : Nat → Prop}, Star is w S → Star js w S := by
  induction h with
  | nil => exact fun h => h
  | cons x _ ih => rintro w S ⟨S1, S2, k1, k2, hd, h1, h2⟩; exact ⟨S1, S2, k1, k2, hd, h1, ih h2⟩
  | swap x y l =>
    rintro w S ⟨S1, S2, k1, k2, hd, h1, T1, T2, t1, t2, td, h2, h3⟩
    exact ⟨T1, fun k => S1 k ∨ T2 k, fun k h => k2 k (t1 k h), fun k h => h.elim (k1 k) (fun h => k2 k (t2 k h)), fun k a b => b.elim (fun b => hd k b (t1 k a)) (td k a), h2, S1, T2, fun k h => .inl h, fun k h => .inr h, fun k a b => hd k a (t2 k b), h1, h3⟩
  | trans _ _ ih1 ih2 => exact fun h => ih2 (ih1 h)
theorem mem_perm {w0 w : World} {is js : List Itm} (h : is.Perm js) (M : Mem w0 w is) : Mem w0 w js := ⟨M.1, star_perm h M.2⟩
theorem mem_tail_in {w0 w : World} {L F : List Itm} (M : Mem w0 w (L ++ F)) : Mem w0 w (L ++ [tailI F]) := ⟨M.1, star_tail_in L M.2⟩
theorem mem_tail_out {w0 w : World} {L F : List Itm} (M : Mem w0 w (L ++ [tailI F])) : Mem w0 w (L ++ F) := ⟨M.1, star_tail_out L M.2⟩
section
variable {w0 : World} {is : List Itm} {ops : Array Oper} {Q : Exit → Act → World → Prop} {o : Oper} {N : Frm} {e : Env} {v : Value} {d : Nat} {K : Act → World → Prop} {f : FuncId} {fn : Func} {ags : Array Operand} {ts : Array TypeId} {vs : List Value}
end
end Go.Proofs.Ytpcabkdkdnchaaa
