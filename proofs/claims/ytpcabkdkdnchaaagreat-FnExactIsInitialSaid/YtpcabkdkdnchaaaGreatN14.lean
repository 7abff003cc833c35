import Derived.Test.YtpcabkdkdnchaaaGreatN11
import Derived.Test.YtpcabkdkdnchaaaGreatN13
import Derived.Test.YtpcabkdkdnchaaaGreatN6
import Derived.Test.YtpcabkdkdnchaaaGreatN10
import Derived.Deep.MidRow
import Derived.Test.YtpcabkdkdnchaaaGreatN9
set_option linter.unusedSimpArgs false
set_option linter.unusedVariables false
set_option linter.unusedSectionVars false
namespace Go.Proofs.YtpcabkdkdnchaaaGreat
open Go.RowKit
theorem cm_range {β : Type} {f : Nat → List β} {z : List β} {k : Nat} (hz : z <+: f k) : ∀ {n : Nat}, k < n → ((List.range k).flatMap f ++ z) <+: (List.range n).flatMap f
  | 0, h => absurd h (by omega)
  | n + 1, h => by
    rw [List.range_succ, List.flatMap_append, List.flatMap_singleton]
    rcases Nat.lt_or_ge k n with h1 | h1
    · exact (cm_range hz h1).trans (List.prefix_append ..)
    · obtain rfl : k = n := by omega
      exact (List.prefix_append_right_inj _).2 hz
theorem cm_rangeS {β : Type} (f : Nat → List β) (k : Nat) : (List.range (k + 1)).flatMap f = (List.range k).flatMap f ++ f k := by
  rw [List.range_succ, List.flatMap_append, List.flatMap_singleton]
theorem cm_take {xs : List Int} {i : Nat} (h : i < xs.length) : xs.take (i + 1) = xs.take i ++ [at0 xs (i : Int)] := by
  rw [List.take_succ_eq_append_getElem h]
  show xs.take i ++ [xs[i]] = xs.take i ++ [xs.getD (i : Int).toNat 0]
  rw [Int.toNat_natCast, List.getD_eq_getElem?_getD, List.getElem?_eq_getElem h]; rfl
theorem cm_takeS {β : Type} (f : Int → List β) {xs : List Int} {i : Nat} (h : i < xs.length) : (xs.take (i + 1)).flatMap f = (xs.take i).flatMap f ++ f (at0 xs (i : Int)) := by
  rw [cm_take h, List.flatMap_append, List.flatMap_singleton]
theorem cm_flat {β : Type} {f : Int → List β} {xs : List Int} {i : Nat} {z : List β} (h : i < xs.length) (hz : z <+: f (at0 xs (i : Int))) : ((xs.take i).flatMap f ++ z) <+: xs.flatMap f := by
  refine List.IsPrefix.trans ((List.prefix_append_right_inj _).2 hz) ?_
  rw [← cm_takeS f h]
  have : xs.flatMap f = (xs.take (i + 1)).flatMap f ++ (xs.drop (i + 1)).flatMap f := by rw [← List.flatMap_append, List.take_append_drop]
  rw [this]; exact List.prefix_append ..
theorem cm_map {β : Type} {g : Int → β} {xs : List Int} {i : Nat} (h : i < xs.length) : ((xs.take i).map g ++ [g (at0 xs (i : Int))]) <+: xs.map g := by
  have h1 : (xs.take i).map g ++ [g (at0 xs (i : Int))] = (xs.take (i + 1)).map g := by rw [cm_take h, List.map_append]; rfl
  rw [h1]
  have : xs.map g = (xs.take (i + 1)).map g ++ (xs.drop (i + 1)).map g := by rw [← List.map_append, List.take_append_drop]
  rw [this]; exact List.prefix_append ..
theorem cm_mapS {β : Type} (g : Int → β) {xs : List Int} {i : Nat} (h : i < xs.length) : (xs.take i).map g ++ [g (at0 xs (i : Int))] = (xs.take (i + 1)).map g := by rw [cm_take h, List.map_append]; rfl
theorem cm_filT {β : Type} {g : Int → β} {p : Int → Bool} {xs : List Int} {i : Nat} (h : i < xs.length) (hp : p (at0 xs (i : Int)) = true) : ((xs.take i).filter p).map g ++ [g (at0 xs (i : Int))] = ((xs.take (i + 1)).filter p).map g := by
  rw [cm_take h, List.filter_append, List.map_append, List.filter_cons_of_pos hp]; rfl
theorem cm_filF {β : Type} {g : Int → β} {p : Int → Bool} {xs : List Int} {i : Nat} (h : i < xs.length) (hp : p (at0 xs (i : Int)) = false) : ((xs.take i).filter p).map g = ((xs.take (i + 1)).filter p).map g := by
  rw [cm_take h, List.filter_append, List.map_append, List.filter_cons_of_neg (by rw [hp]; decide), List.filter_nil, List.map_nil, List.append_nil]
theorem cm_fil {β : Type} {g : Int → β} {p : Int → Bool} {xs : List Int} (i : Nat) : ((xs.take i).filter p).map g <+: (xs.filter p).map g := by
  have : (xs.filter p).map g = ((xs.take i).filter p).map g ++ ((xs.drop i).filter p).map g := by rw [← List.map_append, ← List.filter_append, List.take_append_drop]
  rw [this]; exact List.prefix_append ..
def obH (F G : Fct) (a b : Nat) : List (Ent Int) := (homTo F.T (at0 F.o (a : Int)) (at0 G.o (b : Int)) F.T.s.length).map fun h => ((a : Int), (b : Int), h)
def obR (F G : Fct) (a : Nat) : List (Ent Int) := (List.range G.o.length).flatMap (obH F G a)
def obL (F G : Fct) : List (Ent Int) := (List.range F.o.length).flatMap (obR F G)
def obU (F G : Fct) (a b i : Nat) : List (Ent Int) := (List.range a).flatMap (obR F G) ++ ((List.range b).flatMap (obH F G a) ++ ((homTo F.T (at0 F.o (a : Int)) (at0 G.o (b : Int)) F.T.s.length).take i).map fun h => ((a : Int), (b : Int), h))
theorem obU_pre {F G : Fct} {a b i : Nat} (ha : a < F.o.length) (hb : b < G.o.length) (hi : i < (homTo F.T (at0 F.o (a : Int)) (at0 G.o (b : Int)) F.T.s.length).length) :
    (obU F G a b i ++ [((a : Int), (b : Int), at0 (homTo F.T (at0 F.o (a : Int)) (at0 G.o (b : Int)) F.T.s.length) (i : Int))]) <+: obL F G := by
  unfold obU; rw [List.append_assoc, List.append_assoc]
  exact cm_range (cm_range (cm_map (g := fun h => ((a : Int), (b : Int), h)) hi) hb) ha
theorem obU_succ {F G : Fct} {a b i : Nat} (hi : i < (homTo F.T (at0 F.o (a : Int)) (at0 G.o (b : Int)) F.T.s.length).length) : obU F G a b i ++ [((a : Int), (b : Int), at0 (homTo F.T (at0 F.o (a : Int)) (at0 G.o (b : Int)) F.T.s.length) (i : Int))] = obU F G a b (i + 1) := by
  unfold obU; rw [List.append_assoc, List.append_assoc, cm_mapS (fun h => ((a : Int), (b : Int), h)) hi]
theorem obU_b {F G : Fct} {a b : Nat} : obU F G a b (homTo F.T (at0 F.o (a : Int)) (at0 G.o (b : Int)) F.T.s.length).length = obU F G a (b + 1) 0 := by
  unfold obU; rw [List.take_length, cm_rangeS, List.take_zero, List.map_nil, List.append_nil]; rfl
theorem obU_a {F G : Fct} {a : Nat} : obU F G a G.o.length 0 = obU F G (a + 1) 0 0 := by
  unfold obU; rw [cm_rangeS, List.take_zero, List.map_nil, List.append_nil, List.take_zero, List.map_nil, List.append_nil, List.range_zero, List.flatMap_nil, List.append_nil]; rfl
theorem obU_0 {F G : Fct} : obU F G 0 0 0 = [] := by simp [obU]
theorem obU_end {F G : Fct} : obU F G F.o.length 0 0 = obL F G := by simp [obU, obL]
theorem obL_mem {F G : Fct} {x : Ent Int} : x ∈ obL F G ↔ (0 ≤ x.1 ∧ x.1 < F.o.length) ∧ (0 ≤ x.2.1 ∧ x.2.1 < G.o.length) ∧ (0 ≤ x.2.2 ∧ x.2.2 < F.T.s.length) ∧ at0 F.T.s x.2.2 = at0 F.o x.1 ∧ at0 F.T.t x.2.2 = at0 G.o x.2.1 := by
  obtain ⟨a, b, h⟩ := x
  simp only [obL, obR, obH, List.mem_flatMap, List.mem_range, List.mem_map, Prod.mk.injEq, mem_homTo]
  constructor
  · rintro ⟨a', ha, b', hb, h', ⟨j, hj, rfl, e1, e2⟩, rfl, rfl, rfl⟩
    exact ⟨⟨by omega, by omega⟩, ⟨by omega, by omega⟩, ⟨by omega, by omega⟩, e1, e2⟩
  · rintro ⟨⟨a0, a1⟩, ⟨b0, b1⟩, ⟨h0, h1⟩, e1, e2⟩
    obtain ⟨a', rfl⟩ := Int.eq_ofNat_of_zero_le a0
    obtain ⟨b', rfl⟩ := Int.eq_ofNat_of_zero_le b0
    obtain ⟨j, rfl⟩ := Int.eq_ofNat_of_zero_le h0
    exact ⟨a', by omega, b', by omega, _, ⟨j, by omega, rfl, e1, e2⟩, rfl, rfl, rfl⟩
theorem cm_flen {β : Type} {f : Nat → List β} {m : Nat} (h : ∀ i, (f i).length ≤ m) : ∀ k : Nat, ((List.range k).flatMap f).length ≤ k * m
  | 0 => by simp
  | k + 1 => by rw [cm_rangeS, List.length_append, Nat.succ_mul]; have := cm_flen h k; have := h k; omega
theorem cm_flenT {β : Type} {f : Int → List β} {m : Nat} (h : ∀ i, (f i).length ≤ m) : ∀ xs : List Int, (xs.flatMap f).length ≤ xs.length * m
  | [] => by simp
  | x :: xs => by rw [List.flatMap_cons, List.length_append, List.length_cons, Nat.succ_mul]; have := cm_flenT h xs; have := h x; omega
theorem obL_len {F G : Fct} (hf : F.o.length ≤ 8) (hg : G.o.length ≤ 8) (ht : F.T.s.length ≤ 40) : (obL F G).length ≤ 2560 := by
  have h1 : ∀ a b, (obH F G a b).length ≤ 40 := fun a b => by unfold obH; rw [List.length_map]; have := homTo_len F.T (at0 F.o (a : Int)) (at0 G.o (b : Int)) F.T.s.length; omega
  have h2 : ∀ a, (obR F G a).length ≤ 320 := fun a => by have := cm_flen (h1 a) G.o.length; unfold obR; omega
  have := cm_flen h2 F.o.length; unfold obL; omega
noncomputable def cmB (F G : Fct) (h k u v : Int) : Bool := bP (F.T.th (at0 F.a u) k = F.T.th h (at0 G.a v))
noncomputable def paU (F G : Fct) (x y : Ent Int) (u : Int) : List (Int × Int) := ((homTo G.S x.2.1 y.2.1 G.S.s.length).filter (cmB F G x.2.2 y.2.2 u)).map fun v => (u, v)
noncomputable def paL (F G : Fct) (x y : Ent Int) : List (Int × Int) := (homTo F.S x.1 y.1 F.S.s.length).flatMap (paU F G x y)
noncomputable def paI (F G : Fct) (x y : Ent Int) (i j : Nat) : List (Int × Int) := ((homTo F.S x.1 y.1 F.S.s.length).take i).flatMap (paU F G x y) ++ (((homTo G.S x.2.1 y.2.1 G.S.s.length).take j).filter (cmB F G x.2.2 y.2.2 (at0 (homTo F.S x.1 y.1 F.S.s.length) (i : Int)))).map fun v => (at0 (homTo F.S x.1 y.1 F.S.s.length) (i : Int), v)
theorem paI_t {F G : Fct} {x y : Ent Int} {i j : Nat} (hj : j < (homTo G.S x.2.1 y.2.1 G.S.s.length).length) (h : cmB F G x.2.2 y.2.2 (at0 (homTo F.S x.1 y.1 F.S.s.length) (i : Int)) (at0 (homTo G.S x.2.1 y.2.1 G.S.s.length) (j : Int)) = true) :
    paI F G x y i j ++ [(at0 (homTo F.S x.1 y.1 F.S.s.length) (i : Int), at0 (homTo G.S x.2.1 y.2.1 G.S.s.length) (j : Int))] = paI F G x y i (j + 1) := by
  unfold paI; rw [List.append_assoc, cm_filT (g := fun v => (at0 (homTo F.S x.1 y.1 F.S.s.length) (i : Int), v)) hj h]
theorem paI_f {F G : Fct} {x y : Ent Int} {i j : Nat} (hj : j < (homTo G.S x.2.1 y.2.1 G.S.s.length).length) (h : cmB F G x.2.2 y.2.2 (at0 (homTo F.S x.1 y.1 F.S.s.length) (i : Int)) (at0 (homTo G.S x.2.1 y.2.1 G.S.s.length) (j : Int)) = false) : paI F G x y i j = paI F G x y i (j + 1) := by
  unfold paI; rw [cm_filF (g := fun v => (at0 (homTo F.S x.1 y.1 F.S.s.length) (i : Int), v)) hj h]
theorem paI_i {F G : Fct} {x y : Ent Int} {i : Nat} (hi : i < (homTo F.S x.1 y.1 F.S.s.length).length) : paI F G x y i (homTo G.S x.2.1 y.2.1 G.S.s.length).length = paI F G x y (i + 1) 0 := by
  unfold paI; rw [List.take_length, cm_takeS _ hi, List.take_zero, List.filter_nil, List.map_nil, List.append_nil]; rfl
theorem paI_0 {F G : Fct} {x y : Ent Int} : paI F G x y 0 0 = [] := by simp [paI]
theorem paI_end {F G : Fct} {x y : Ent Int} : paI F G x y (homTo F.S x.1 y.1 F.S.s.length).length 0 = paL F G x y := by simp [paI, paL]
theorem paI_pre {F G : Fct} {x y : Ent Int} {i j : Nat} (hi : i < (homTo F.S x.1 y.1 F.S.s.length).length) : paI F G x y i j <+: paL F G x y := by
  unfold paI paL
  exact cm_flat hi (cm_fil (g := fun v => (at0 (homTo F.S x.1 y.1 F.S.s.length) (i : Int), v)) (p := cmB F G x.2.2 y.2.2 (at0 (homTo F.S x.1 y.1 F.S.s.length) (i : Int))) j)
theorem paL_len {F G : Fct} (x y : Ent Int) (hf : F.S.s.length ≤ 40) (hg : G.S.s.length ≤ 40) : (paL F G x y).length ≤ 1600 := by
  have h1 : ∀ u, (paU F G x y u).length ≤ 40 := fun u => by
    unfold paU; rw [List.length_map]
    have := List.length_filter_le (cmB F G x.2.2 y.2.2 u) (homTo G.S x.2.1 y.2.1 G.S.s.length)
    have := homTo_len G.S x.2.1 y.2.1 G.S.s.length; omega
  have h2 := cm_flenT h1 (homTo F.S x.1 y.1 F.S.s.length)
  have h3 := homTo_len F.S x.1 y.1 F.S.s.length
  have : (homTo F.S x.1 y.1 F.S.s.length).length * 40 ≤ 40 * 40 := Nat.mul_le_mul_right _ (by omega)
  unfold paL; omega
noncomputable def arT (F G : Fct) (os : List (Ent Int)) (s t : Nat) : List (Ent (Int × Int)) := (paL F G (atE os (s : Int)) (atE os (t : Int))).map fun p => ((s : Int), (t : Int), p)
noncomputable def arS (F G : Fct) (os : List (Ent Int)) (s : Nat) : List (Ent (Int × Int)) := (List.range os.length).flatMap (arT F G os s)
noncomputable def arL (F G : Fct) (os : List (Ent Int)) : List (Ent (Int × Int)) := (List.range os.length).flatMap (arS F G os)
noncomputable def arU (F G : Fct) (os : List (Ent Int)) (s t : Nat) (ps : List (Int × Int)) : List (Ent (Int × Int)) := (List.range s).flatMap (arS F G os) ++ ((List.range t).flatMap (arT F G os s) ++ ps.map fun p => ((s : Int), (t : Int), p))
theorem arU_pre {F G : Fct} {os : List (Ent Int)} {s t : Nat} {ps : List (Int × Int)} (hs : s < os.length) (ht : t < os.length) (hp : ps <+: paL F G (atE os (s : Int)) (atE os (t : Int))) : arU F G os s t ps <+: arL F G os := by
  unfold arU
  exact cm_range (cm_range (List.IsPrefix.map _ hp) ht) hs
theorem arU_snoc {F G : Fct} {os : List (Ent Int)} {s t : Nat} {ps : List (Int × Int)} {p : Int × Int} : arU F G os s t ps ++ [((s : Int), (t : Int), p)] = arU F G os s t (ps ++ [p]) := by
  unfold arU; rw [List.append_assoc, List.append_assoc, List.map_append]; rfl
theorem arU_t {F G : Fct} {os : List (Ent Int)} {s t : Nat} : arU F G os s t (paL F G (atE os (s : Int)) (atE os (t : Int))) = arU F G os s (t + 1) [] := by
  unfold arU; rw [cm_rangeS, List.map_nil, List.append_nil]; rfl
theorem arU_s {F G : Fct} {os : List (Ent Int)} {s : Nat} : arU F G os s os.length [] = arU F G os (s + 1) 0 [] := by
  unfold arU; rw [cm_rangeS]; simp [arS]
theorem arU_0 {F G : Fct} {os : List (Ent Int)} : arU F G os 0 0 [] = [] := by simp [arU]
theorem arU_end {F G : Fct} {os : List (Ent Int)} : arU F G os os.length 0 [] = arL F G os := by simp [arU, arL]
theorem arL_mem {F G : Fct} {os : List (Ent Int)} {e : Ent (Int × Int)} : e ∈ arL F G os ↔ (0 ≤ e.1 ∧ e.1 < os.length) ∧ (0 ≤ e.2.1 ∧ e.2.1 < os.length) ∧ e.2.2 ∈ paL F G (atE os e.1) (atE os e.2.1) := by
  obtain ⟨s, t, p⟩ := e
  simp only [arL, arS, arT, List.mem_flatMap, List.mem_range, List.mem_map, Prod.mk.injEq]
  constructor
  · rintro ⟨s', hs, t', ht, p', hp, rfl, rfl, rfl⟩
    exact ⟨⟨by omega, by omega⟩, ⟨by omega, by omega⟩, hp⟩
  · rintro ⟨⟨s0, s1⟩, ⟨t0, t1⟩, hp⟩
    obtain ⟨s', rfl⟩ := Int.eq_ofNat_of_zero_le s0
    obtain ⟨t', rfl⟩ := Int.eq_ofNat_of_zero_le t0
    exact ⟨s', by omega, t', by omega, p, hp, rfl, rfl, rfl⟩
theorem arL_len {F G : Fct} {os : List (Ent Int)} {m : Nat} (ho : os.length ≤ m) (hf : F.S.s.length ≤ 40) (hg : G.S.s.length ≤ 40) : (arL F G os).length ≤ m * (m * 1600) := by
  have h1 : ∀ s t, (arT F G os s t).length ≤ 1600 := fun s t => by unfold arT; rw [List.length_map]; exact paL_len _ _ hf hg
  have h2 : ∀ s, (arS F G os s).length ≤ m * 1600 := fun s => Nat.le_trans (cm_flen (h1 s) os.length) (Nat.mul_le_mul_right 1600 ho)
  exact Nat.le_trans (cm_flen h2 os.length) (Nat.mul_le_mul_right (m * 1600) ho)
theorem cm_id {c : Cat} (hC : IsCat c) {f : Int} (f0 : 0 ≤ f) (f1 : f < c.s.length) : c.th (at0 c.e (at0 c.s f)) f = f ∧ c.th f (at0 c.e (at0 c.t f)) = f := by
  obtain ⟨a, rfl⟩ := Int.eq_ofNat_of_zero_le f0
  exact hC.idl a (by omega)
structure CspP (F G : Fct) : Prop where
  f : IsFct F
  g : IsFct G
  t : F.T = G.T
theorem fct_en {F : Fct} (h : IsFct F) {f : Int} (f0 : 0 ≤ f) (f1 : f < F.S.s.length) : (0 ≤ at0 F.a f ∧ at0 F.a f < F.T.s.length) ∧ at0 F.T.s (at0 F.a f) = at0 F.o (at0 F.S.s f) ∧ at0 F.T.t (at0 F.a f) = at0 F.o (at0 F.S.t f) := by
  obtain ⟨a, rfl⟩ := Int.eq_ofNat_of_zero_le f0
  have := h.la
  exact ⟨allP_at h.ia (k := a) (by omega), h.en a (by omega)⟩
theorem obP_at {F G : Fct} {x : Int} (x0 : 0 ≤ x) (x1 : x < (obL F G).length) : (0 ≤ (atE (obL F G) x).1 ∧ (atE (obL F G) x).1 < F.o.length) ∧ (0 ≤ (atE (obL F G) x).2.1 ∧ (atE (obL F G) x).2.1 < G.o.length) ∧ (0 ≤ (atE (obL F G) x).2.2 ∧ (atE (obL F G) x).2.2 < F.T.s.length) ∧ at0 F.T.s (atE (obL F G) x).2.2 = at0 F.o (atE (obL F G) x).1 ∧ at0 F.T.t (atE (obL F G) x).2.2 = at0 G.o (atE (obL F G) x).2.1 := by
  obtain ⟨n, rfl⟩ := Int.eq_ofNat_of_zero_le x0
  exact obL_mem.1 (atE_mem (by omega))
end Go.Proofs.YtpcabkdkdnchaaaGreat
set_option linter.unusedSimpArgs false
set_option linter.unusedVariables false
set_option linter.unusedSectionVars false
namespace Go.Proofs.YtpcabkdkdnchaaaGreat
open Go.RowKit
section
variable {w0 : World} {is : List Itm} {ops : Array Oper} {Q : Exit → Act → World → Prop} {o : Oper} {rest : List Oper} {N : Frm} {e : Env} {v : Value} {d : Nat} {K : Act → World → Prop}
theorem go_appendA {s x : Operand} {t : TypeId} {n : Nat} {xs ys : List Int} {ua : Option Addr} {un uc : Nat} (hd : o.dst = some d) (hN : Nat.blt d N = true) (hop : o.op = .call { callee := .builtin .append, args := #[s, x], argTypes := #[t, t] }) (ht : Tryz.prog.underlying t = some (.slice 2))
  (hs : evo e s = some v) (hx : evo e x = some (.slice ua un uc)) (hi : is[n]? = some (own1I v xs)) (hj : ∀ w, Mem w0 w is → Rd w (.slice ua un uc) ys) (hn : xs.length + ys.length ≤ 17592186044415)
  (hk : ∀ a cap, GK w0 (is.set n (own1I (.slice a (xs ++ ys).length cap) (xs ++ ys))) N K ((d, .slice a (xs ++ ys).length cap) :: e)) : GO w0 is N o e Q K := by
 cases ua with
 | some q => exact go_appendL hd hN hop ht hs hx hi hj rfl hn hk
 | none =>
  intro w ac M F
  obtain ⟨ad, cap, hv, _, hc⟩ := hj w M
  have hy : ys = [] := by
   rcases Nat.eq_zero_or_pos ys.length with h0 | h0
   ·exact List.eq_nil_of_length_eq_zero h0
   ·obtain ⟨b, off, ha, _⟩ := hc 0 h0
    subst ha; cases hv
  subst hy
  simp only [Value.slice.injEq, List.length_nil] at hv
  obtain ⟨_, rfl, _⟩ := hv
  simp only [List.append_nil] at hk
  obtain ⟨S, hS, hp, hset⟩ := mem_set M hi
  have hp : Own1 v xs w S := hp
  obtain ⟨va, vc, hvf, _⟩ := sl_form hp.1
  obtain ⟨i, hi', hz, hs1, hb⟩ := info_parts info64
  have hr : (Builtin.append_ #[t, t] o.type #[v, .slice none 0 uc]).run Tryz.prog w = .ok v w := by
   rcases hp.1.1.2 with ⟨rfl, _⟩ | ⟨g, cap, cur, rfl, _, _, hnc, _⟩
   ·simp [Builtin.append_, run_underlying ht, sizeOf, typeInfo, hi', Builtin.lenOf, Builtin.firstCells]
   ·simp [Builtin.append_, run_underlying ht, sizeOf, typeInfo, hi', Builtin.lenOf, Builtin.firstCells, hnc, storeCells]
  subst hvf
  have hM : Mem w0 w (is.set n (own1I (.slice va xs.length vc) xs)) := by
   have : is.set n (own1I (.slice va xs.length vc) xs) = is := by
    have h1 := (List.getElem?_eq_some_iff.1 hi)
    obtain ⟨hlt, he⟩ := h1
    rw [← he, List.set_getElem_self]
   rw [this]; exact M
  refine go_val (v := .slice va xs.length vc) (w' := w) hd hN F ?_ fun ac F => hk va vc w ac hM F
  intro ρ F; have hs := F _ _ hs; have hx := F _ _ hx
  simp only [execOp, hop, resolve, invoke, builtin, Sem.run_bind, Sem.run_pure, Result.andThen_ok, List.map_toArray, List.map_cons, List.map_nil, hs, hx]
  rw [hr]
  rfl
end
theorem take2_succ {xs : List (List Int)} {k : Nat} (h : k < xs.length) : xs.take k ++ [row2 xs (k : Int)] = xs.take (k + 1) := by
 rw [List.take_succ_eq_append_getElem h]; simp [row2, List.getD_eq_getElem?_getD, List.getElem?_eq_getElem h]
theorem take2_len {xs : List (List Int)} {k : Nat} (h : k ≤ xs.length) : (xs.take k).length = k := by simp; omega
set_option maxHeartbeats 1000000 in
set_option maxRecDepth 100000 in
theorem specOwn_any (w : World) (v : Value) (xs : List Int) (h : Rd w v xs) :
  Calls Tryz.prog 79 #[v] w (RetL w xs) := by
 obtain ⟨va, vc, rfl⟩ := rd_form h
 have hxl : xs.length ≤ 17592186044415 := by obtain ⟨_, _, _, hl, _⟩ := h; exact hl
 go_enter Tryz.func79, Tryz.ntmps79
 refine gc_enter (N := 6) rfl (look_cons (k := 0) rfl (look_nil _)) ?_
 refine gc_sr fun K1 hK1 => ?_
 refine gas ?_
 refine gnt (hK1 _ _ ?_)
 refine gc_sr fun K2 hK2 => ?_
 refine gop fun K4 hK4 => ?_
 refine go_slice0 rfl rfl rfl Tryz.underlying22 ?_
 intro B3
 refine hK4 _ _ ?_
 refine gm ?_
 refine gop fun K6 hK6 => ?_
 refine go_appendA (n := 0) rfl rfl rfl Tryz.underlying22 rfl rfl rfl (fun w M => mem_rd M h) (by first | simp; omega | omega) ?_
 intro va5 vc5
 refine hK6 _ _ ?_
 refine gas ?_
 refine gnt (hK2 _ _ ?_)
 refine gc_ret ?_
 refine ret_1 rfl rfl  (fun w M => ?_)
 exact ⟨_, rfl, mem_own1 (n := 0) M rfl, M.1⟩
set_option maxHeartbeats 1000000 in
set_option maxRecDepth 100000 in
theorem specOwn2_any (w : World) (v : Value) (xs : List (List Int)) (h : Rd2 w v xs) :
  Calls Tryz.prog 112 #[v] w (RetR w xs) := by
 obtain ⟨va, vc, rfl⟩ := rd2_form h
 have hxl := rd2_len h
 go_enter Tryz.func112, Tryz.ntmps112
 refine gc_enter (N := 21) rfl (look_cons (k := 0) rfl (look_nil _)) ?_
 refine gc_sr fun K1 hK1 => ?_
 refine gas ?_
 refine gnt (hK1 _ _ ?_)
 refine gc_sr fun K2 hK2 => ?_
 refine gop fun K4 hK4 => ?_
 refine go_sliceR0 rfl rfl rfl Tryz.underlying23 ?_
 intro B3
 refine hK4 _ _ ?_
 refine gas ?_
 refine gnt (hK2 _ _ ?_)
 refine gc_seq fun K5 hK5 => ?_
 refine gc_sr fun K6 hK6 => ?_
 refine gas ?_
 refine gnt (hK6 _ _ ?_)
 refine gc_block ?_
 try simp only [sL]
 refine gc_loopT ([(0, _), (2, _)] : Env) (fun s : Nat × (Option Addr) × Nat × (List Value) => (fun (k : Nat) (a : Option Addr) (q : Nat) (us : List Value) => (([(3, .slice a (xs.take k).length q), (4, .int .i64 (k : Int))] : Env), ([(0, own2U (.slice a (xs.take k).length q) us (xs.take k))] : List (Nat × Itm)), k ≤ xs.length, xs.length - k)) s.1 s.2.1 s.2.2.1 s.2.2.2) (0, _, _, _) (by repeat first | exact sub_nil | refine sub_cons rfl ?_) rfl (Nat.zero_le _) ?_
 rintro ⟨k, a, q, us⟩ hinv KL7 hKL7
 simp only [sU, sL] at hinv hKL7 ⊢
 have hk := hinv
 have hl := take2_len hk
 refine gc_seq fun K8 hK8 => ?_
 refine gc_sr fun K9 hK9 => ?_
 refine gm ?_
 refine gm ?_
 refine gv (qt_len rfl rfl ulE2 (fun w M => lenV_rd2 h)) ?_
 refine gv (qt_lss rfl rfl rfl) ?_
 refine gnt (hK9 _ _ ?_)
 refine gc_cond rfl (fun hc0 => ?_) (fun hc0 => ?_)
 ·try simp only [sA] at hc0
  refine gc_skip ?_
  refine gk_then (hK8 _ _ ?_)
  refine gc_seq fun K10 hK10 => ?_
  refine gc_block ?_
  refine gc_region ?_
  refine gm ?_
  refine gm ?_
  refine gm ?_
  refine gv (qti2 (fun w M => lenA_rd2 h)) ?_
  refine g_load2 (.free rfl) rfl rfl rfl rfl Tryz.underlying22 rfl h (by omega) (by omega) ?_
  intro ra11 rc11 hr11
  refine gop fun K13 hK13 => ?_
  refine go_callL rfl rfl rfl Tryz.func79 rfl (by decide) rfl (fun w M => specOwn_any w _ _ (mem_rd M hr11)) ?_
  intro va12 vc12
  refine hK13 _ _ ?_
  refine gop fun K15 hK15 => ?_
  refine go_sliceR1 (m := 1) rfl rfl rfl rfl Tryz.underlying23 rfl ?_
  intro B14
  refine hK15 _ _ ?_
  refine gop fun K17 hK17 => ?_
  refine go_appendRow (n := 0) (m := 1) (m' := 0) rfl rfl rfl Tryz.underlying23 rfl rfl rfl rfl rfl (by omega) ?_
  intro va16 vc16
  refine hK17 _ _ ?_
  refine gas ?_
  refine g_nil ?_
  refine gk_block ?_
  refine gk_then (hK10 _ _ ?_)
  refine gc_region ?_
  refine gm ?_
  refine gv (qt_add rfl rfl rfl (by omega)) ?_
  refine gas ?_
  refine g_nil ?_
  simp only [take2_succ (xs := xs) (k := k) (by omega)]
  refine gk_then (gk_take 1 ?_)
  refine gk_sub ?hs_18 (hKL7 (k + 1, _, _, _) ?hi_18 ?hm_18)
  case hs_18 => repeat first | exact sub_nil | refine sub_cons rfl ?_
  case hi_18 => omega
  case hm_18 => omega
 ·try simp only [sA] at hc0
  refine gc_exit ?_
  refine gk_then_exit ?_
  refine gk_then_exit ?_
  refine gk_block_hit ?_
  refine gk_then (hK5 _ _ ?_)
  refine gc_sr fun K19 hK19 => ?_
  refine gm ?_
  refine gas ?_
  refine gnt (hK19 _ _ ?_)
  refine gc_ret ?_
  refine ret_1 rfl rfl  (fun w M => ?_)
  obtain rfl : k = xs.length := by omega
  simp only [List.take_length] at M ⊢
  obtain ⟨S, hS, hb⟩ := mem_2U (n := 0) M rfl
  exact ⟨_, rfl, Own2.at (S := S) ⟨_, hb⟩ hS, M.1⟩
set_option maxHeartbeats 1000000 in
set_option maxRecDepth 100000 in
theorem specOwnC_any (w : World) (v : Value) (c : Cat) (h : RdC w v c) :
  Calls Tryz.prog 78 #[v] w (RetC w c) := by
 have h0 := h
 obtain ⟨va, vb, vc, vd, ve, vf, vg, vh, rfl, h1, h2, h3, h4, _⟩ := h.lists
 go_enter Tryz.func78, Tryz.ntmps78
 refine gc_enter (N := 18) rfl (look_cons (k := 0) rfl (look_nil _)) ?_
 refine gc_sr fun K1 hK1 => ?_
 refine gop fun K3 hK3 => ?_
 refine go_box rfl rfl rfl rfl rfl ?_
 intro B2
 refine hK3 _ _ ?_
 refine gop fun K5 hK5 => ?_
 refine go_alloc (z := (.agg #[.int .i64 0, .slice none 0 0, .slice none 0 0, .slice none 0 0, .slice none 0 0])) (cs := [.int .i64 0, .slice none 0 0, .slice none 0 0, .slice none 0 0, .slice none 0 0]) rfl rfl rfl (fun w => by kernel_rfl) rfl ?_
 intro B4
 refine hK5 _ _ ?_
 refine gnt (hK1 _ _ ?_)
 refine gc_seq fun K6 hK6 => ?_
 try simp only [sL]
 refine ga_start _ (fun w M => mem_erase 1 (M)) ?_
 refine gav 0 rfl (qtf Tryz.underlying29 (z := 0) (off := 0)) ?_
 refine gav 1 rfl (qtl Tryz.underlying2 (n := 0)) ?_
 refine gav 2 rfl (qtf Tryz.underlying29 (z := 0) (off := 1)) ?_
 refine gav 3 rfl (qtl Tryz.underlying22 (n := 0)) ?_
 refine gav 5 rfl (qtf Tryz.underlying29 (z := 0) (off := 2)) ?_
 refine gav 6 rfl (qtl Tryz.underlying22 (n := 0)) ?_
 refine gav 8 rfl (qtf Tryz.underlying29 (z := 0) (off := 3)) ?_
 refine gav 9 rfl (qtl Tryz.underlying22 (n := 0)) ?_
 refine gav 11 rfl (qtf Tryz.underlying29 (z := 0) (off := 4)) ?_
 refine gav 12 rfl (qtl Tryz.underlying23 (n := 0)) ?_
 refine gao 4 fun K8 hK8 => ?_
 refine go_callL rfl rfl rfl Tryz.func79 rfl (by decide) rfl (fun w M => specOwn_any w _ _ (mem_rd M h1)) ?_
 intro va7 vc7
 refine hK8 _ _ (fun w M => (mem_erase 1 (mem_take 2 M) :)) ?_
 refine gao 7 fun K10 hK10 => ?_
 refine go_callL rfl rfl rfl Tryz.func79 rfl (by decide) rfl (fun w M => specOwn_any w _ _ (mem_rd M h2)) ?_
 intro va9 vc9
 refine hK10 _ _ (fun w M => (mem_erase 1 (mem_take 2 M) :)) ?_
 refine gao 10 fun K12 hK12 => ?_
 refine go_callL rfl rfl rfl Tryz.func79 rfl (by decide) rfl (fun w M => specOwn_any w _ _ (mem_rd M h3)) ?_
 intro va11 vc11
 refine hK12 _ _ (fun w M => (mem_erase 1 (mem_take 2 M) :)) ?_
 refine gao 13 fun K14 hK14 => ?_
 refine go_callR rfl rfl rfl Tryz.func112 rfl (by decide) rfl (fun w M => specOwn2_any w _ _ (mem_rd2 M h4)) ?_
 intro va13 vc13 us13
 refine hK14 _ _ (fun w M => (mem_erase 1 (mem_take 2 M) :)) ?_
 refine gav 14 rfl (qt_build rfl rfl bt_Category) ?_
 refine gao 15 fun K15 hK15 => ?_
 refine go_storeS (n := 1) rfl rfl rfl rfl (by kernel_rfl) rfl rfl rfl ?_
 refine hK15 _ _ (fun w M => (mem_erase 1 (mem_take 2 M) :)) ?_
 refine ga_done (by kernel_rfl) ?_
 refine gk_then (hK6 _ _ ?_)
 refine gc_ret ?_
 refine ret_S (n := 1) rfl rfl Tryz.underlying29 rfl (by kernel_rfl) rfl (fun w M => ?_)
 exact ⟨_, rfl, ownC_star (mem_pick (n := 5) (mem_pick (n := 5) (mem_pick (n := 5) (mem_pick (n := 5) (M) rfl) rfl) rfl) rfl).2, M.1⟩
end Go.Proofs.YtpcabkdkdnchaaaGreat
set_option linter.unusedSimpArgs false
set_option linter.unusedVariables false
set_option linter.unusedSectionVars false
namespace Go.Proofs.YtpcabkdkdnchaaaGreat
open Go.RowKit
def RowOk (rows : List (List Int)) (b : Int) (i : Nat) : Prop := (row2 rows (i : Int)).length = rows.length ∧ AllP b (row2 rows (i : Int))
def SquareP (rows : List (List Int)) (b : Int) : Prop := ∀ i : Nat, i < rows.length → RowOk rows b i
theorem allP_to {b : Int} {xs : List Int} (h : ∀ j : Nat, j < xs.length → 0 ≤ at0 xs (j : Int) ∧ at0 xs (j : Int) < b) : AllP b xs := fun x hx => by
 obtain ⟨j, hj, rfl⟩ := List.getElem_of_mem hx
 have := h j hj
 rwa [at0_nat, List.getD_eq_getElem?_getD, List.getElem?_eq_getElem hj] at this
theorem allP_not {b : Int} {xs : List Int} {j : Nat} (hj : j < xs.length) (h : ¬ (0 ≤ at0 xs (j : Int) ∧ at0 xs (j : Int) < b)) : ¬ AllP b xs := fun ha => h (allP_at ha hj)
theorem sq_at {rows : List (List Int)} {b : Int} (h : SquareP rows b) {i j : Nat} (hi : i < rows.length) (hj : j < rows.length) : 0 ≤ at0 (row2 rows (i : Int)) (j : Int) ∧ at0 (row2 rows (i : Int)) (j : Int) < b :=
 allP_at (h i hi).2 (by rw [(h i hi).1]; exact hj)
def FitP (c : Cat) : Prop := c.ob ≤ 8 ∧ c.s.length ≤ 40
set_option maxHeartbeats 1000000 in
set_option maxRecDepth 100000 in
theorem isSquare_any (w : World) (u : Value) (rows : List (List Int)) (b : Int) (hu : Rd2 w u rows) :
  Calls Tryz.prog 176 #[u, .int .i64 b] w (RetB w (bP (SquareP rows (b + 1)))) := by
 obtain ⟨ua, uc, rfl⟩ := rd2_form hu
 have hul := rd2_len hu
 go_enter Tryz.func176, Tryz.ntmps176
 refine gc_enter (N := 35) rfl (look_cons (k := 0) rfl (look_cons (k := 1) rfl (look_nil _))) ?_
 refine gc_sr fun K1 hK1 => ?_
 refine gas ?_
 refine gnt (hK1 _ _ ?_)
 refine gc_seq fun K2 hK2 => ?_
 refine gc_sr fun K3 hK3 => ?_
 refine gm ?_
 refine gv (qt_len rfl rfl ulE2 (fun w M => lenV_rd2 hu)) ?_
 refine gm ?_
 refine gnt (hK3 _ _ ?_)
 refine gc_block ?_
 try simp only [sL]
 refine gc_loopT ([(0, _), (1, _), (9, _), (10, _)] : Env) (fun s : Nat => (fun (k : Nat) => (([(11, .int .i64 (k : Int))] : Env), ([] : List (Nat × Itm)), k ≤ rows.length ∧ ∀ j : Nat, j < k → RowOk rows (b + 1) j, rows.length - k)) s) (0) (by repeat first | exact sub_nil | refine sub_cons rfl ?_) rfl ⟨Nat.zero_le _, fun f hf => absurd hf (by omega)⟩ ?_
 rintro k hinv KL4 hKL4
 simp only [sU, sL] at hinv hKL4 ⊢
 obtain ⟨hk, hall⟩ := hinv
 refine gc_sr fun K5 hK5 => ?_
 refine gv (qt_lss rfl rfl rfl) ?_
 refine gnt (hK5 _ _ ?_)
 refine gc_seq fun K6 hK6 => ?_
 refine gc_cond rfl (fun hc0 => ?_) (fun hc0 => ?_)
 ·try simp only [sA] at hc0
  refine gc_skip ?_
  refine gk_then (hK6 _ _ ?_)
  refine gc_seq fun K7 hK7 => ?_
  refine gc_block ?_
  refine gc_sr fun K8 hK8 => ?_
  refine gv (qti2 (fun w M => lenA_rd2 hu)) ?_
  refine g_load2 (.free rfl) rfl rfl rfl rfl Tryz.underlying22 rfl hu (by omega) (by omega) ?_
  intro ra9 rc9 hr9
  refine gas ?_
  refine gnt (hK8 _ _ ?_)
  refine gc_seq fun K10 hK10 => ?_
  refine gc_sr fun K11 hK11 => ?_
  refine gm ?_
  refine gv (qln (fun w M => lenV_rd hr9)) ?_
  refine gm ?_
  refine gv (qt_len rfl rfl ulE2 (fun w M => lenV_rd2 hu)) ?_
  refine gv (qt_neq rfl rfl rfl) ?_
  refine gnt (hK11 _ _ ?_)
  refine gc_cond rfl (fun hc1 => ?_) (fun hc1 => ?_)
  ·try simp only [sA] at hc1
   refine gc_sr fun K12 hK12 => ?_
   refine gas ?_
   refine gnt (hK12 _ _ ?_)
   refine gc_ret ?_
   refine gk_then_ret ?_
   refine gk_block_ret ?_
   refine gk_then_ret ?_
   refine gk_then_ret ?_
   refine gk_block_ret ?_
   refine gk_then_ret ?_
   refine ret_1 rfl rfl  (fun w M => ?_)
   rw [bP_f (fun h : SquareP rows (b + 1) => by have := (h k (by omega)).1; omega)]; exact ⟨rfl, M.1⟩
  ·try simp only [sA] at hc1
   refine gc_skip ?_
   refine gk_then (hK10 _ _ ?_)
   refine gc_sr fun K13 hK13 => ?_
   refine gm ?_
   refine gv (qln (fun w M => lenV_rd hr9)) ?_
   refine gm ?_
   refine gnt (hK13 _ _ ?_)
   refine gc_block ?_
   try simp only [sL]
   refine gc_loopT ([(0, _), (1, _), (6, _), (9, _), (10, _), (11, _), (12, _), (19, _), (20, _), (21, _)] : Env) (fun s : Nat => (fun (l : Nat) => (([(22, .int .i64 (l : Int))] : Env), ([] : List (Nat × Itm)), l ≤ (row2 rows (k : Int)).length ∧ ∀ j : Nat, j < l → 0 ≤ at0 (row2 rows (k : Int)) (j : Int) ∧ at0 (row2 rows (k : Int)) (j : Int) < b + 1, (row2 rows (k : Int)).length - l)) s) (0) (by repeat first | exact sub_nil | refine sub_cons rfl ?_) rfl ⟨Nat.zero_le _, fun f hf => absurd hf (by omega)⟩ ?_
   rintro l hinv KL14 hKL14
   simp only [sU, sL] at hinv hKL14 ⊢
   obtain ⟨hl, hin⟩ := hinv
   refine gc_sr fun K15 hK15 => ?_
   refine gv (qt_lss rfl rfl rfl) ?_
   refine gnt (hK15 _ _ ?_)
   refine gc_seq fun K16 hK16 => ?_
   refine gc_cond rfl (fun hc2 => ?_) (fun hc2 => ?_)
   ·try simp only [sA] at hc2
    refine gc_skip ?_
    refine gk_then (hK16 _ _ ?_)
    refine gc_seq fun K17 hK17 => ?_
    refine gc_block ?_
    refine gc_sr fun K18 hK18 => ?_
    refine gv (qti (fun w M => lenA_rd hr9)) ?_
    refine gv (qtd (fun w M => mem_rd M hr9)) ?_
    refine gas ?_
    refine gnt (hK18 _ _ ?_)
    refine gc_sr fun K19 hK19 => ?_
    refine gm ?_
    refine gv (qt_lss rfl rfl rfl) ?_
    refine g_splitv (.free rfl) rfl rfl (qt_move rfl rfl) (fun hs9_2 => ?_) (fun hs9_2 => ?_)
    ·try simp only [sA] at hs9_2
     refine gsk ?_
     refine gsk ?_
     refine gsk ?_
     refine gv (qt_pick_t rfl rfl rfl) ?_
     refine gnt (hK19 _ _ ?_)
     refine gc_cond_t rfl ?_
     refine gc_sr fun K20 hK20 => ?_
     refine gas ?_
     refine gnt (hK20 _ _ ?_)
     refine gc_ret ?_
     refine gk_block_ret ?_
     refine gk_then_ret ?_
     refine gk_then_ret ?_
     refine gk_block_ret ?_
     refine gk_block_ret ?_
     refine gk_then_ret ?_
     refine gk_then_ret ?_
     refine gk_block_ret ?_
     refine gk_then_ret ?_
     refine ret_1 rfl rfl  (fun w M => ?_)
     rw [bP_f (fun h : SquareP rows (b + 1) => allP_not (j := l) (by omega) (by omega) (h k (by omega)).2)]; exact ⟨rfl, M.1⟩
    ·try simp only [sA] at hs9_2
     refine gvh (qt_move rfl rfl) ?_
     refine gvh (qt_move rfl rfl) ?_
     refine gvh (qt_gtr rfl rfl rfl) ?_
     refine gv (qt_pick_f rfl rfl rfl) ?_
     refine gnt (hK19 _ _ ?_)
     refine gc_cond rfl (fun hc3 => ?_) (fun hc3 => ?_)
     ·try simp only [sA] at hc3
      refine gc_sr fun K21 hK21 => ?_
      refine gas ?_
      refine gnt (hK21 _ _ ?_)
      refine gc_ret ?_
      refine gk_block_ret ?_
      refine gk_then_ret ?_
      refine gk_then_ret ?_
      refine gk_block_ret ?_
      refine gk_block_ret ?_
      refine gk_then_ret ?_
      refine gk_then_ret ?_
      refine gk_block_ret ?_
      refine gk_then_ret ?_
      refine ret_1 rfl rfl  (fun w M => ?_)
      rw [bP_f (fun h : SquareP rows (b + 1) => allP_not (j := l) (by omega) (by omega) (h k (by omega)).2)]; exact ⟨rfl, M.1⟩
     ·try simp only [sA] at hc3
      refine gc_skip ?_
      refine gk_block ?_
      refine gk_then (hK17 _ _ ?_)
      refine gc_region ?_
      refine gv (qt_add rfl rfl rfl (by omega)) ?_
      refine gm ?_
      refine g_nil ?_
      refine gk_then (gk_take 0 ?_)
      refine gk_sub ?hs_22 (hKL14 (l + 1) ?hi_22 ?hm_22)
      case hs_22 => repeat first | exact sub_nil | refine sub_cons rfl ?_
      case hi_22 => exact ⟨by omega, all_next hin (by omega)⟩
      case hm_22 => omega
   ·try simp only [sA] at hc2
    refine gc_exit ?_
    refine gk_then_exit ?_
    refine gk_then_exit ?_
    refine gk_block_hit ?_
    refine gk_block ?_
    refine gk_then (hK7 _ _ ?_)
    refine gc_region ?_
    refine gv (qt_add rfl rfl rfl (by omega)) ?_
    refine gm ?_
    refine g_nil ?_
    refine gk_then (gk_take 0 ?_)
    refine gk_sub ?hs_23 (hKL4 (k + 1) ?hi_23 ?hm_23)
    case hs_23 => repeat first | exact sub_nil | refine sub_cons rfl ?_
    case hi_23 => exact ⟨by omega, all_next hall ⟨by omega, allP_to fun j hj => hin j (by omega)⟩⟩
    case hm_23 => omega
 ·try simp only [sA] at hc0
  refine gc_exit ?_
  refine gk_then_exit ?_
  refine gk_then_exit ?_
  refine gk_block_hit ?_
  refine gk_then (hK2 _ _ ?_)
  refine gc_sr fun K24 hK24 => ?_
  refine gas ?_
  refine gnt (hK24 _ _ ?_)
  refine gc_ret ?_
  refine ret_1 rfl rfl  (fun w M => ?_)
  obtain rfl : k = rows.length := by omega
  rw [bP_t (show SquareP rows (b + 1) from hall)]; exact ⟨rfl, M.1⟩
end Go.Proofs.YtpcabkdkdnchaaaGreat
set_option linter.unusedSimpArgs false
set_option linter.unusedVariables false
set_option linter.unusedSectionVars false
namespace Go.Proofs.YtpcabkdkdnchaaaGreat
open Go.RowKit
def row3 (e : Ent Int) : List Int := [e.1, e.2.1, e.2.2]
def row4 (e : Ent (Int × Int)) : List Int := [e.1, e.2.1, e.2.2.1, e.2.2.2]
theorem row2_map {α : Type} [Inhabited α] {r : Ent α → List Int} {es : List (Ent α)} {i : Nat} (h : i < es.length) : row2 (es.map r) (i : Int) = r (atE es (i : Int)) := by
  unfold row2
  rw [Int.toNat_natCast, List.getD_eq_getElem?_getD, List.getElem?_map, List.getElem?_eq_getElem h, atE_eq h]; rfl
end Go.Proofs.YtpcabkdkdnchaaaGreat
set_option linter.unusedSimpArgs false
set_option linter.unusedVariables false
set_option linter.unusedSectionVars false
namespace Go.Proofs.YtpcabkdkdnchaaaGreat
open Go.RowKit
structure Lab0 (α : Type) where
  z : Nat
  lc : α → List Value
  tE : TypeId
  tS : TypeId
  bts : Nat
  zc : Value
  td : TypeDesc
  len : ∀ l, (lc l).length = z
  one : ∀ l, (lc l).all (·.oneCell') = true
  inf : (Tryz.prog.info? tE).map (fun i => (i.zero, i.size, i.bytes)) = some (some zc, z + 2, bts)
  zl : zc.cells.size = z + 2
  cap : Nat
  hc1 : 1 ≤ cap
  hc2 : cap ≤ 17592186044415
  hcb : cap * bts ≤ 140737488355328
  hz : z ≤ 64
  ud : Tryz.prog.underlying tE = some td
  row : td.isRow = true
  ul : Tryz.prog.underlying tS = some (.slice tE)
  el : Tryz.prog.elem tS = tE
variable {α : Type}
def enc0 (L : Lab0 α) (e : Ent α) : List Value := Value.int .i64 e.1 :: Value.int .i64 e.2.1 :: L.lc e.2.2
def encA0 (L : Lab0 α) (e : Ent α) : Value := .agg (enc0 L e).toArray
theorem enc_len0 (L : Lab0 α) (e : Ent α) : (enc0 L e).length = L.z + 2 := by simp [enc0, L.len]
theorem enc_one0 (L : Lab0 α) (e : Ent α) : (enc0 L e).all (·.oneCell') = true := by
  have := L.one e.2.2
  simp only [enc0, List.all_cons, this]; rfl
theorem lab_size0 (L : Lab0 α) : (Tryz.prog.info? L.tE).map (·.size) = some (L.z + 2) := by
  obtain ⟨i, hi, _, hs, _⟩ := info_parts L.inf
  simp [hi, hs]
theorem lab_ul0 (L : Lab0 α) : Tryz.prog.underlying L.tS = some (.slice (Tryz.prog.elem L.tS)) := by rw [L.el]; exact L.ul
theorem flat_at0 (L : Lab0 α) : ∀ (es : List (Ent α)) {j : Nat} (hj : j < es.length) {c : Nat}, c < L.z + 2 → (es.flatMap (enc0 L))[j * (L.z + 2) + c]? = (enc0 L es[j])[c]?
  | [], j, hj, _, _ => by simp at hj
  | e :: es, 0, _, c, hc => by rw [List.flatMap_cons, List.getElem?_append_left (by rw [enc_len0]; omega)]; simp
  | e :: es, j + 1, hj, c, hc => by
    rw [List.flatMap_cons, List.getElem?_append_right (by rw [enc_len0, Nat.succ_mul]; omega), enc_len0, show (j + 1) * (L.z + 2) + c - (L.z + 2) = j * (L.z + 2) + c from by rw [Nat.succ_mul]; omega]
    simpa using flat_at0 L es (j := j) (by simpa using hj) hc
def OwnE0 (L : Lab0 α) (v : Value) (es : List (Ent α)) (w : World) (S : Nat → Prop) : Prop := w.ownsRow 0 L.tE (L.z + 2) v es.length (es.flatMap (enc0 L)) ∧ es.length ≤ L.cap ∧ ∀ q, v.ownBlock = some q → S q
theorem ownE_loc0 (L : Lab0 α) (v : Value) (es : List (Ent α)) : Loc (OwnE0 L v es) where
  keep hs ha h := ⟨own_agree h.1 fun q hq e => ha q hq (h.2.2 q e), h.2.1, fun q hq => hs q (h.1.lt q hq).2 (h.2.2 q hq)⟩
def ownEI0 (L : Lab0 α) (v : Value) (es : List (Ent α)) : Itm := ⟨_, ownE_loc0 L v es⟩
def RdE0 (L : Lab0 α) (w : World) (v : Value) (es : List (Ent α)) : Prop :=
  ∃ (a : Option Addr) (cap : Nat), v = .slice a es.length cap ∧ es.length ≤ L.cap ∧
    (0 < es.length → ∃ b off, a = some ⟨b, off, none⟩ ∧ b < w.heap.size ∧ ∀ j (hj : j < es.length), w.rangeAt b (off + j * (L.z + 2)) (enc0 L es[j]))
theorem OwnE0.rd {L : Lab0 α} {w : World} {S : Nat → Prop} {v : Value} {es : List (Ent α)} (h : OwnE0 L v es w S) : RdE0 L w v es := by
  obtain ⟨h1, h2, h3⟩ := h
  rcases h1.2 with ⟨hv, hn⟩ | ⟨g, cap, cur, hv, _, hg, _⟩
  · exact ⟨none, 0, by rw [hv, hn], h2, fun h => by omega⟩
  · refine ⟨some ⟨g, 0, none⟩, cap, hv, h2, fun _ => ⟨g, 0, rfl, (Array.getElem?_eq_some_iff.1 hg).1, fun j hj c u hu => ?_⟩⟩
    have hc : c < L.z + 2 := by
      have := (List.getElem?_eq_some_iff.1 hu).1
      rwa [enc_len0] at this
    have hf := flat_at0 L es hj hc
    rw [hu] at hf
    have hlt := (List.getElem?_eq_some_iff.1 hf).1
    rw [Nat.zero_add]
    subst hv
    have := h1.cells (g := g) rfl (j * (L.z + 2) + c) u hf
    rw [Addr.add_mid, Nat.zero_add] at this
    exact this
theorem ownE_form0 {L : Lab0 α} {w : World} {S : Nat → Prop} {v : Value} {es : List (Ent α)} (h : OwnE0 L v es w S) : ∃ a cap, v = .slice a es.length cap := let ⟨a, cap, hv, _⟩ := h.rd; ⟨a, cap, hv⟩
@[irreducible] def atE0 [Inhabited α] (es : List (Ent α)) (i : Int) : Ent α := es.getD i.toNat default
def eltE0 (z : Nat) (v : Value) (i : Int) : Value := match v with | .slice (some a) _ _ => .pointer (some ⟨a.block, a.off + i.toNat * z, none⟩) | _ => .pointer none
section
variable {w0 : World} {is : List Itm} {ops : Array Oper} {Q : Exit → Act → World → Prop} {o : Oper} {rest : List Oper} {N : Frm} {e : Env} {v : Value} {d : Nat} {K : Act → World → Prop}
theorem mem_ownE0 {L : Lab0 α} {w : World} {n : Nat} {es : List (Ent α)} (M : Mem w0 w is) (h : is[n]? = some (ownEI0 L v es)) : RdE0 L w v es := by
  obtain ⟨S, _, hb⟩ := mem_get M h
  exact OwnE0.rd (S := S) hb
theorem lenV_E0 {L : Lab0 α} {w : World} {es : List (Ent α)} (h : RdE0 L w v es) : LenV v es.length := let ⟨a, cap, hv, _⟩ := h; ⟨a, cap, hv⟩
theorem lenA_E0 {L : Lab0 α} {w : World} {es : List (Ent α)} (h : RdE0 L w v es) : LenA v es.length := let ⟨a, cap, hv, _, hc⟩ := h; ⟨a, cap, hv, fun h0 => let ⟨b, off, ha, _⟩ := hc h0; ⟨b, off, ha⟩⟩
theorem qt_indexE0 (L : Lab0 α) {x y : Operand} {t : TypeId} {n : Nat} {i : Int} (hop : o.op = .indexAddr t x y) (hx : evo e x = some (v)) (hy : evo e y = some (.int .i64 i)) (ht : t = L.tS)
    (hl : ∀ w, Mem w0 w is → LenA v n) (h0 : 0 ≤ i) (h1 : i < (n : Int)) : QV w0 is o e (eltE0 (L.z + 2) v i) :=
  fun w ac M F => by
    subst ht
    have hx := F _ _ hx; have hy := F _ _ hy
    obtain ⟨a, cap, rfl, ha⟩ := hl w M
    obtain ⟨b, off, rfl⟩ := ha (by omega)
    have hI := info_parts L.inf
    obtain ⟨ii, hi, hz, hs, hb⟩ := hI
    simp only [execOp, hop, hx, hy, run_indexAt_slice _ _ _ _ _ _ _ (lab_ul0 L), L.el, h0, h1, and_self, if_true, sizeOf, typeInfo, hi, hs, eltE0, Sem.run_bind, Sem.run_pure, Result.andThen_ok, run_program, Addr.add_mid]
theorem qt_loadE0 [Inhabited α] (L : Lab0 α) {x : Operand} {t : TypeId} {u : Value} {es : List (Ent α)} {i : Int} (hop : o.op = .load t x) (hx : evo e x = some (eltE0 (L.z + 2) u i)) (ht : t = L.tE)
    (hr : ∀ w, Mem w0 w is → RdE0 L w u es) (h0 : 0 ≤ i) (h1 : i < es.length) : QV w0 is o e (encA0 L (atE0 es i)) :=
  fun w ac M F => by
    subst ht
    have hx := F _ _ hx
    obtain ⟨a, cap, rfl, _, hc⟩ := hr w M
    obtain ⟨b, off, rfl, _, hcell⟩ := hc (by omega)
    have hlt : i.toNat < es.length := by omega
    have hcc := hcell i.toNat hlt
    have he : atE0 es i = es[i.toNat] := by simp [atE0, List.getD_eq_getElem?_getD, List.getElem?_eq_getElem hlt]
    rw [← he] at hcc
    simp [execOp, hop, hx, eltE0, encA0, run_loadAt_mid w b (off + i.toNat * (L.z + 2)) L.tE (enc0 L (atE0 es i)) L.td hcc L.ud L.row (by rw [lab_size0, enc_len0])]
theorem go_sliceE10 (L : Lab0 α) {t : TypeId} {x : Operand} {a b : Int} {l : α} (hd : o.dst = some d) (hN : Nat.blt d N = true) (hop : o.op = .buildSlice t 1 #[(0, x)]) (hx : evo e x = some (.agg (Value.int .i64 a :: Value.int .i64 b :: L.lc l).toArray)) (ht : t = L.tS)
    (hk : ∀ B : Nat, GK w0 (is ++ [ownEI0 L (.slice (some ⟨B, 0, none⟩) 1 1) [(a, b, l)]]) N K ((d, .slice (some ⟨B, 0, none⟩) 1 1) :: e)) : GO w0 is N o e Q K := by
  subst ht
  obtain ⟨en, hen⟩ : ∃ en : Ent α, en = (a, b, l) := ⟨_, rfl⟩
  have hx : evo e x = some (encA0 L en) := by rw [hen]; exact hx
  rw [← hen] at hk
  intro w ac M F
  have hO : OwnE0 L (.slice (some ⟨w.heap.size, 0, none⟩) 1 1) [en] (w.alloc (.cells (enc0 L en).toArray L.tE)) (fun k => w.heap.size ≤ k) := by
    refine ⟨⟨by simp [enc_len0], .inr ⟨w.heap.size, 1, (enc0 L en).toArray, rfl, Nat.zero_le _, heap_alloc_new w _, Nat.le_refl _, by unfold maxLen; omega, by simp [enc_len0], ?_⟩⟩, L.hc1, fun q hq => by simp [Value.ownBlock] at hq; omega⟩
    simp [enc_len0]
    exact List.take_of_length_le (by simp [enc_len0])
  refine go_val (v := .slice (some ⟨w.heap.size, 0, none⟩) 1 1) (w' := w.alloc (.cells (enc0 L en).toArray L.tE)) hd hN F ?_ fun ac F => hk _ _ ac (mem_new M (below_alloc w _) hO) F
  intro ρ F; have hx := F _ _ hx
  obtain ⟨i, hi, hz, hs, hb⟩ := info_parts L.inf
  have hcl : (encA0 L en).cells = (enc0 L en).toArray := rfl
  have hsz : (enc0 L en).toArray.size = L.z + 2 := by simp [enc_len0]
  have h24 : ¬ 16777216 < L.z + 2 := by have := L.hz; omega
  have hcs : (encA0 L en).cells.size = L.z + 2 := by rw [hcl, hsz]
  have hfold := fold_set (enc0 L en) 0 (Array.map (fun x => L.zc.cells[x % L.zc.cells.size]!) (Array.range (L.z + 2))) (by simp [enc_len0])
  simp [execOp, hop, hx, Instr.buildSlice, run_underlying L.ul, sizeOf, typeInfo, hi, hs, Instr.fill, newRow, zeroValue, hz, Sem.run_bind, range1, h24]
  rw [if_neg (by rw [hcs]; omega), hcl]
  simp
  rw [hfold]; simp
theorem go_appendE0 (L : Lab0 α) {s x : Operand} {t : TypeId} {n m : Nat} {es : List (Ent α)} {u : Value} {en : Ent α} (hd : o.dst = some d) (hN : Nat.blt d N = true) (hop : o.op = .call { callee := .builtin .append, args := #[s, x], argTypes := #[t, t] }) (ht : t = L.tS)
    (hs : evo e s = some v) (hx : evo e x = some u) (hi : is[n]? = some (ownEI0 L v es)) (hj : is[m]? = some (ownEI0 L u [en])) (hn : es.length + 1 ≤ L.cap)
    (hk : ∀ a cap, GK w0 (is.set n (ownEI0 L (.slice a (es ++ [en]).length cap) (es ++ [en]))) N K ((d, .slice a (es ++ [en]).length cap) :: e)) : GO w0 is N o e Q K := by
  subst ht
  intro w ac M F
  obtain ⟨ad, cap, hu, _, hc⟩ := mem_ownE0 M hj
  obtain ⟨b, off, ha, _, hcell⟩ := hc (by simp)
  subst ha
  have hv : u = .slice (some ⟨b, off, none⟩) 1 cap := hu
  have h0 := hcell 0 (by simp)
  simp only [Nat.zero_mul, Nat.add_zero, List.getElem_cons_zero] at h0
  obtain ⟨S, hS, hp, hset⟩ := mem_set M hi
  have hp : OwnE0 L v es w S := hp
  obtain ⟨i, hi', hz, hs1, hb⟩ := info_parts L.inf
  have hc2 := L.hc2
  have hby : (es.length + 1) * L.bts ≤ 140737488355328 := Nat.le_trans (Nat.mul_le_mul_right _ hn) L.hcb
  obtain ⟨v', w', hr, hown, hgrow, _, hat⟩ := run_append_own_at (P := Tryz.prog) w 0 L.tS o.type L.tE i L.zc (L.z + 2) L.bts L.ul hi' hz hs1 hb L.zl (by omega) v es.length (es.flatMap (enc0 L)) hp.1 ⟨b, off, none⟩ 1 cap (enc0 L en) (by rw [enc_len0]; omega) (fun j z hz => by rw [Addr.add_mid]; exact h0 j z hz) (fun z hz => List.all_eq_true.1 (enc_one0 L en) z hz) (by unfold maxLen; omega) hby (Nat.zero_le _)
  have hO : OwnE0 L v' (es ++ [en]) w' (fun k => S k ∨ w.heap.size ≤ k) := by
    refine ⟨by simpa using hown, by simpa using hn, fun q hq => ?_⟩
    rcases hat with hat | hat
    · exact .inl (hp.2.2 q (by rw [← hat]; exact hq))
    · rw [hat] at hq
      simp only [Option.some.injEq] at hq
      exact .inr (by omega)
  obtain ⟨va, vc, rfl⟩ := ownE_form0 hO
  refine go_val (v := .slice va (es ++ [en]).length vc) (w' := w') hd hN F ?_ fun ac F => hk va vc w' ac (hset w' (ownEI0 L (.slice va (es ++ [en]).length vc) (es ++ [en])) (frS_grown hgrow hp.2.2) hO) F
  intro ρ F; have hs := F _ _ hs; have hx := F _ _ hx
  simp only [execOp, hop, resolve, invoke, builtin, Sem.run_bind, Sem.run_pure, Result.andThen_ok, List.map_toArray, List.map_cons, List.map_nil, hs, hx, hv]
  rw [hr]
  rfl
theorem mem_nilE0 (L : Lab0 α) {w : World} (M : Mem w0 w is) : Mem w0 w (is ++ [ownEI0 L (.slice none 0 0) []]) :=
  mem_new M (Below.refl _ _) ⟨World.ownsRow_nil w 0 _ _, Nat.zero_le _, fun q hq => by simp [Value.ownBlock] at hq⟩
theorem gc_nilE0 (L : Lab0 α) {c : Code} (hk : GC w0 (is ++ [ownEI0 L (.slice none 0 0) []]) N c Q e) : GC w0 is N c Q e := fun w a M F => hk w a (mem_nilE0 L M) F
end
end Go.Proofs.YtpcabkdkdnchaaaGreat
set_option linter.unusedSimpArgs false
set_option linter.unusedVariables false
set_option linter.unusedSectionVars false
namespace Go.Proofs.YtpcabkdkdnchaaaGreat
open Go.RowKit
theorem tail_loc (js : List Itm) : Loc (fun w S => Star js w S) where
  keep hs ha h := star_keep js hs ha h
def tailI (js : List Itm) : Itm := ⟨_, tail_loc js⟩
theorem star_tail_in : ∀ (L : List Itm) {F : List Itm} {w : World} {S : Nat → Prop}, Star (L ++ F) w S → Star (L ++ [tailI F]) w S
  | [], F, w, S, h => ⟨S, fun _ => False, fun _ h => h, fun _ h => h.elim, fun _ _ h => h, h, trivial⟩
  | _ :: L, F, w, S, ⟨S1, S2, k1, k2, kd, h1, h2⟩ => ⟨S1, S2, k1, k2, kd, h1, star_tail_in L h2⟩
theorem star_tail_out : ∀ (L : List Itm) {F : List Itm} {w : World} {S : Nat → Prop}, Star (L ++ [tailI F]) w S → Star (L ++ F) w S
  | [], F, w, S, ⟨S1, _, k1, _, _, h1, _⟩ => star_keep F (fun k _ h => k1 k h) agree_refl h1
  | _ :: L, F, w, S, ⟨S1, S2, k1, k2, kd, h1, h2⟩ => ⟨S1, S2, k1, k2, kd, h1, star_tail_out L h2⟩
theorem star_perm {is js : List Itm} (h : is.Perm js) : ∀ {w : World} {S : Nat → Prop}, Star is w S → Star js w S := by
  induction h with
  | nil => exact fun h => h
  | cons x _ ih => rintro w S ⟨S1, S2, k1, k2, hd, h1, h2⟩; exact ⟨S1, S2, k1, k2, hd, h1, ih h2⟩
  | swap x y l =>
    rintro w S ⟨S1, S2, k1, k2, hd, h1, T1, T2, t1, t2, td, h2, h3⟩
    exact ⟨T1, fun k => S1 k ∨ T2 k, fun k h => k2 k (t1 k h), fun k h => h.elim (k1 k) (fun h => k2 k (t2 k h)), fun k a b => b.elim (fun b => hd k b (t1 k a)) (td k a), h2, S1, T2, fun k h => .inl h, fun k h => .inr h, fun k a b => hd k a (t2 k b), h1, h3⟩
  | trans _ _ ih1 ih2 => exact fun h => ih2 (ih1 h)
theorem mem_perm {w0 w : World} {is js : List Itm} (h : is.Perm js) (M : Mem w0 w is) : Mem w0 w js := ⟨M.1, star_perm h M.2⟩
theorem mem_tail_in {w0 w : World} {L F : List Itm} (M : Mem w0 w (L ++ F)) : Mem w0 w (L ++ [tailI F]) := ⟨M.1, star_tail_in L M.2⟩
theorem mem_tail_out {w0 w : World} {L F : List Itm} (M : Mem w0 w (L ++ [tailI F])) : Mem w0 w (L ++ F) := ⟨M.1, star_tail_out L M.2⟩
section
variable {w0 : World} {is : List Itm} {ops : Array Oper} {Q : Exit → Act → World → Prop} {o : Oper} {N : Frm} {e : Env} {v : Value} {d : Nat} {K : Act → World → Prop} {f : FuncId} {fn : Func} {ags : Array Operand} {ts : Array TypeId} {vs : List Value}
end
end Go.Proofs.YtpcabkdkdnchaaaGreat
