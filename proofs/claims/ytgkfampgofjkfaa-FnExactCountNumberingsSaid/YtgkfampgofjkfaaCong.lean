
/- Congruences: what the model and the program ask of a partition of arrows come to the same; no memory. -/
import Derived.Test.YtgkfampgofjkfaaJoinU
import Derived.Test.YtgkfampgofjkfaaJoinP
import Derived.Test.YtgkfampgofjkfaaHomL
set_option linter.unusedSimpArgs false
set_option linter.unusedVariables false
set_option linter.unusedSectionVars false
namespace Go.Proofs.Ytgkfampgofjkfaa
open Go.RowKit
/-! ### Arrows by their numbers -/
theorem cat_th {c : Cat} (hC : IsCat c) {f g : Nat} (hf : f < c.s.length) (hg : g < c.s.length) (h : at0 c.t (f : Int) = at0 c.s (g : Int)) :
    ∃ k : Nat, c.th (f : Int) (g : Int) = k ∧ k < c.s.length ∧ at0 c.s (k : Int) = at0 c.s (f : Int) ∧ at0 c.t (k : Int) = at0 c.t (g : Int) := by
  have hT := th_ends hC.toShapeP (f := (f : Int)) (g := (g : Int)) (by omega) (by omega) (by omega) (by omega) h
  obtain ⟨k, hk⟩ := Int.eq_ofNat_of_zero_le hT.1.1
  have h1 := hT.1.2; have h2 := hT.2
  rw [hk] at h1 h2
  exact ⟨k, hk, by omega, h2.1, h2.2⟩
theorem cat_as {c : Cat} (hC : IsCat c) {f g h : Nat} (hf : f < c.s.length) (hg : g < c.s.length) (hh : h < c.s.length) (h1 : at0 c.t (f : Int) = at0 c.s (g : Int)) (h2 : at0 c.t (g : Int) = at0 c.s (h : Int)) :
    c.th (c.th (f : Int) (g : Int)) (h : Int) = c.th (f : Int) (c.th (g : Int) (h : Int)) := Classical.not_not.1 fun hn => hC.assoc f g h hf hg hh ⟨h1, h2, hn⟩
theorem cat_id {c : Cat} (hC : IsCat c) {f : Nat} (hf : f < c.s.length) :
    ∃ a b : Nat, a < c.s.length ∧ b < c.s.length ∧ at0 c.t (a : Int) = at0 c.s (f : Int) ∧ at0 c.s (b : Int) = at0 c.t (f : Int) ∧ c.th (a : Int) (f : Int) = f ∧ c.th (f : Int) (b : Int) = f := by
  have hS := hC.toShapeP
  have h1 := allP_at hS.sa hf
  have h2 := allP_at hS.ta (k := f) (by rw [hS.tl]; exact hf)
  have i1 := hS.idn h1.1 h1.2
  have i2 := hS.idn h2.1 h2.2
  have hi := hC.idl f hf
  obtain ⟨a, ha⟩ := Int.eq_ofNat_of_zero_le i1.1
  obtain ⟨b, hb⟩ := Int.eq_ofNat_of_zero_le i2.1
  rw [ha] at i1 hi; rw [hb] at i2 hi
  exact ⟨a, b, by omega, by omega, i1.2.2.2, i2.2.2.1, hi.1, hi.2⟩
def Par (c : Cat) (x y : Nat) : Prop := at0 c.s (x : Int) = at0 c.s (y : Int) ∧ at0 c.t (x : Int) = at0 c.t (y : Int)
theorem par_eqv (c : Cat) : Equivalence (Par c) := ⟨fun _ => ⟨rfl, rfl⟩, fun h => ⟨h.1.symm, h.2.symm⟩, fun h h' => ⟨h.1.trans h'.1, h.2.trans h'.2⟩⟩
/-! ### The pairs that the model joins -/
def hitS (c : Cat) (q : List Int) (f g : Nat) : Prop := at0 c.t (f : Int) = at0 c.s (at0 q 0) ∧ at0 c.t (at0 q 0) = at0 c.s (g : Int)
instance (c : Cat) (q : List Int) (f g : Nat) : Decidable (hitS c q f g) := by unfold hitS; infer_instance
def compS (c : Cat) (q : List Int) (f g : Nat) : List Int := [c.th (c.th (f : Int) (at0 q 0)) (g : Int), c.th (c.th (f : Int) (at0 q 1)) (g : Int)]
def sprR (c : Cat) (q : List Int) (f m : Nat) : List (List Int) := ((List.range m).filter fun g => decide (hitS c q f g)).map fun g => compS c q f g
def sprF (c : Cat) (q : List Int) (f : Nat) : List (List Int) := (List.range f).flatMap fun a => sprR c q a c.s.length
def sprK (c : Cat) (ps : List (List Int)) (k : Nat) : List (List Int) := (List.range k).flatMap fun (j : Nat) => sprF c (row2 ps (j : Int)) c.s.length
def sprL (c : Cat) (ps : List (List Int)) (k f m : Nat) : List (List Int) := ((ps ++ sprK c ps k) ++ sprF c (row2 ps (k : Int)) f) ++ sprR c (row2 ps (k : Int)) f m
def spread (c : Cat) (ps : List (List Int)) : List (List Int) := ps ++ sprK c ps ps.length
theorem sprL_zero (c : Cat) (ps : List (List Int)) : ps = sprL c ps 0 0 0 := by simp [sprL, sprK, sprF, sprR]
theorem sprL_t {c : Cat} {ps : List (List Int)} {k f m : Nat} (h : hitS c (row2 ps (k : Int)) f m) : sprL c ps k f m ++ [compS c (row2 ps (k : Int)) f m] = sprL c ps k f (m + 1) := by
  simp [sprL, sprR, List.range_succ, h]
theorem sprL_f {c : Cat} {ps : List (List Int)} {k f m : Nat} (h : ¬ hitS c (row2 ps (k : Int)) f m) : sprL c ps k f m = sprL c ps k f (m + 1) := by
  simp [sprL, sprR, List.range_succ, h]
theorem sprL_row (c : Cat) (ps : List (List Int)) (k f : Nat) : sprL c ps k f c.s.length = sprL c ps k (f + 1) 0 := by
  simp [sprL, sprF, sprR, List.range_succ, List.flatMap_append]
theorem sprL_pair (c : Cat) (ps : List (List Int)) (k : Nat) : sprL c ps k c.s.length 0 = sprL c ps (k + 1) 0 0 := by
  simp [sprL, sprK, sprF, sprR, List.range_succ, List.flatMap_append]
theorem sprL_end (c : Cat) (ps : List (List Int)) : sprL c ps ps.length 0 0 = spread c ps := by simp [sprL, spread, sprF, sprR]
theorem sprR_len (c : Cat) (q : List Int) (f m : Nat) : (sprR c q f m).length ≤ m := by
  simp only [sprR, List.length_map]; exact Nat.le_trans (List.length_filter_le _ _) (by simp)
theorem flat_le {α β : Type} {φ : α → List β} {b : Nat} (h : ∀ a, (φ a).length ≤ b) : ∀ l : List α, (l.flatMap φ).length ≤ l.length * b := by
  intro l
  induction l with
  | nil => simp
  | cons a l ih => have := h a; simp only [List.flatMap_cons, List.length_append, List.length_cons, Nat.succ_mul]; omega
theorem sprF_len {c : Cat} (h : c.s.length ≤ 40) (q : List Int) {f : Nat} (hf : f ≤ c.s.length) : (sprF c q f).length ≤ 1600 := by
  have h1 := flat_le (φ := fun a => sprR c q a c.s.length) (b := 40) (fun a => Nat.le_trans (sprR_len c q a _) h) (List.range f)
  rw [List.length_range] at h1
  have h2 : f * 40 ≤ 40 * 40 := Nat.mul_le_mul_right _ (by omega)
  exact Nat.le_trans h1 h2
theorem sprK_len {c : Cat} (h : c.s.length ≤ 40) (ps : List (List Int)) (k : Nat) : (sprK c ps k).length ≤ k * 1600 := by
  have h1 := flat_le (φ := fun (j : Nat) => sprF c (row2 ps (j : Int)) c.s.length) (b := 1600) (fun a => sprF_len h _ (Nat.le_refl _)) (List.range k)
  rwa [List.length_range] at h1
theorem sprL_len {c : Cat} (h : c.s.length ≤ 40) {ps : List (List Int)} {k f m : Nat} (hf : f ≤ c.s.length) (hm : m ≤ c.s.length) : (sprL c ps k f m).length ≤ ps.length + k * 1600 + 1600 + 40 := by
  have h1 := sprK_len h ps k
  have h2 := sprF_len h (row2 ps (k : Int)) hf
  have h3 := sprR_len c (row2 ps (k : Int)) f m
  simp only [sprL, List.length_append]
  omega
theorem row2_memL {ps : List (List Int)} {j : Nat} (hj : j < ps.length) : row2 ps (j : Int) ∈ ps := by simp [row2, List.getD_eq_getElem?_getD, List.getElem?_eq_getElem hj]
theorem spread_mem {c : Cat} {ps : List (List Int)} {r : List Int} : r ∈ spread c ps ↔ r ∈ ps ∨ ∃ q ∈ ps, ∃ f g : Nat, f < c.s.length ∧ g < c.s.length ∧ hitS c q f g ∧ compS c q f g = r := by
  simp only [spread, sprK, sprF, sprR, List.mem_append, List.mem_flatMap, List.mem_map, List.mem_filter, List.mem_range, decide_eq_true_eq]
  refine or_congr Iff.rfl ⟨?_, ?_⟩
  · rintro ⟨j, hj, f, hf, g, ⟨hg, hh⟩, rfl⟩
    exact ⟨_, row2_memL hj, f, g, hf, hg, hh, rfl⟩
  · rintro ⟨q, hq, f, g, hf, hg, hh, rfl⟩
    obtain ⟨j, hj, rfl⟩ := List.getElem_of_mem hq
    have he : row2 ps (j : Int) = ps[j] := by simp [row2, List.getD_eq_getElem?_getD, List.getElem?_eq_getElem hj]
    exact ⟨j, hj, f, hf, g, ⟨hg, by rw [he]; exact hh⟩, by rw [he]⟩
/-- Pairs of arrows with the same ends. -/
def ParL (c : Cat) (ps : List (List Int)) : Prop := ∀ q ∈ ps, PairP c.s.length q ∧ Par c (pa q) (pb q)
theorem pair_at {n : Nat} {q : List Int} (h : PairP n q) : at0 q 0 = (pa q : Int) ∧ at0 q 1 = (pb q : Int) ∧ pa q < n ∧ pb q < n := by
  have hr := pair_range h
  refine ⟨?_, ?_, hr.1, hr.2.1⟩
  · show q.getD 0 0 = ((q.getD 0 0).toNat : Int); omega
  · show q.getD 1 0 = ((q.getD 1 0).toNat : Int); omega
theorem two_pair {n x y : Nat} (hx : x < n) (hy : y < n) : PairP n [(x : Int), (y : Int)] ∧ pa [(x : Int), (y : Int)] = x ∧ pb [(x : Int), (y : Int)] = y :=
  ⟨⟨rfl, fun z hz => by simp only [List.mem_cons, List.not_mem_nil, or_false] at hz; rcases hz with rfl | rfl <;> omega⟩, by simp [pa], by simp [pb]⟩
theorem comp_two {c : Cat} (hC : IsCat c) {q : List Int} (hq : PairP c.s.length q) (hp : Par c (pa q) (pb q)) {f g : Nat} (hf : f < c.s.length) (hg : g < c.s.length) (hh : hitS c q f g) :
    ∃ x y k l : Nat, c.th (f : Int) (pa q : Int) = k ∧ c.th (f : Int) (pb q : Int) = l ∧ k < c.s.length ∧ l < c.s.length ∧ c.th (k : Int) (g : Int) = x ∧ c.th (l : Int) (g : Int) = y ∧ x < c.s.length ∧ y < c.s.length ∧ compS c q f g = [(x : Int), (y : Int)] ∧ Par c x y ∧
      at0 c.s (x : Int) = at0 c.s (f : Int) ∧ at0 c.t (x : Int) = at0 c.t (g : Int) ∧ at0 c.t (f : Int) = at0 c.s (pa q : Int) ∧ at0 c.t (pa q : Int) = at0 c.s (g : Int) := by
  obtain ⟨ha, hb, la, lb⟩ := pair_at hq
  unfold hitS at hh
  rw [ha] at hh
  obtain ⟨k, ek, lk, sk, tk⟩ := cat_th hC hf la hh.1
  obtain ⟨l, el, ll, sl, tl⟩ := cat_th hC hf lb (hh.1.trans hp.1)
  obtain ⟨x, ex, lx, sx, tx⟩ := cat_th hC lk hg (tk.trans hh.2)
  obtain ⟨y, ey, ly, sy, ty⟩ := cat_th hC ll hg (tl.trans (hp.2.symm.trans hh.2))
  refine ⟨x, y, k, l, ek, el, lk, ll, ex, ey, lx, ly, ?_, ⟨by rw [sx, sk, sy, sl], by rw [tx, ty]⟩, by rw [sx, sk], tx, hh.1, hh.2⟩
  unfold compS; rw [ha, hb, ek, el, ex, ey]
theorem spread_pair {c : Cat} (hC : IsCat c) {ps : List (List Int)} (hps : ParL c ps) : ParL c (spread c ps) := by
  intro r hr
  rcases spread_mem.1 hr with h | ⟨q, hq, f, g, hf, hg, hh, rfl⟩
  · exact hps r h
  · obtain ⟨x, y, k, l, ek, el, lk, ll, ex, ey, lx, ly, e, hp, _⟩ := comp_two hC (hps q hq).1 (hps q hq).2 hf hg hh
    rw [e]
    have := two_pair lx ly
    exact ⟨this.1, by rw [this.2.1, this.2.2]; exact hp⟩
/-- A relation between arrows that composites respect, for arrows x and y. -/
def Clo (c : Cat) (S : Nat → Nat → Prop) (x y : Nat) : Prop := Par c x y ∧ ∀ f g k l u v : Nat, f < c.s.length → g < c.s.length → at0 c.t (f : Int) = at0 c.s (x : Int) → at0 c.t (x : Int) = at0 c.s (g : Int) →
  c.th (f : Int) (x : Int) = k → c.th (f : Int) (y : Int) = l → c.th (k : Int) (g : Int) = u → c.th (l : Int) (g : Int) = v → S u v
theorem clo_eqv {c : Cat} {S : Nat → Nat → Prop} (hC : IsCat c) (hS : Equivalence S) : Equivalence fun x y => x = y ∨ x < c.s.length ∧ y < c.s.length ∧ Clo c S x y := by
  refine ⟨fun x => .inl rfl, fun {x y} h => ?_, fun {x y z} h h' => ?_⟩
  · rcases h with h | ⟨lx, ly, h⟩
    · exact .inl h.symm
    · refine .inr ⟨ly, lx, ⟨h.1.1.symm, h.1.2.symm⟩, fun f g k l u v hf hg h1 h2 e1 e2 e3 e4 => hS.symm (h.2 f g l k v u hf hg (h1.trans h.1.1.symm) (h.1.2.trans h2) e2 e1 e4 e3)⟩
  · rcases h with rfl | ⟨lx, ly, h⟩
    · exact h'
    · rcases h' with rfl | ⟨_, lz, h'⟩
      · exact .inr ⟨lx, ly, h⟩
      · refine .inr ⟨lx, lz, (par_eqv c).trans h.1 h'.1, fun f g k l u v hf hg h1 h2 e1 e2 e3 e4 => ?_⟩
        obtain ⟨m, em, lm, sm, tm⟩ := cat_th hC hf ly (h1.trans h.1.1)
        obtain ⟨z', ez, _⟩ := cat_th hC lm hg (tm.trans (h.1.2.symm.trans h2))
        exact hS.trans (h.2 f g k m u z' hf hg h1 h2 e1 em e3 ez) (h'.2 f g m l z' v hf hg (h1.trans h.1.1) (h.1.2.symm.trans h2) em e2 ez e4)
/-- What the model joins is respected by composites. -/
theorem spread_clo {c : Cat} (hC : IsCat c) {ps : List (List Int)} (hps : ParL c ps) {x y : Nat} (hx : x < c.s.length) (hy : y < c.s.length) (h : RelL c.s.length (spread c ps) x y) : x = y ∨ Clo c (RelL c.s.length (spread c ps)) x y := by
  have hsp := spread_pair hC hps
  have hpp : ∀ q ∈ spread c ps, PairP c.s.length q := fun q hq => (hsp q hq).1
  have hmain := relL_univ hpp (clo_eqv hC (relL_eqv c.s.length (spread c ps))) (fun q hq => ?_) hx hy h
  · rcases hmain with h | h
    · exact .inl h
    · exact .inr h.2.2
  · have hqp := (hsp q hq)
    obtain ⟨ha, hb, la, lb⟩ := pair_at hqp.1
    refine .inr ⟨la, lb, hqp.2, fun f g k l u v hf hg h1 h2 e1 e2 e3 e4 => ?_⟩
    obtain ⟨k', ek, lk, sk, tk⟩ := cat_th hC hf la h1
    obtain ⟨l', el, ll, sl, tl⟩ := cat_th hC hf lb (h1.trans hqp.2.1)
    obtain rfl : k = k' := by omega
    obtain rfl : l = l' := by omega
    obtain ⟨u', eu, lu, _⟩ := cat_th hC lk hg (tk.trans h2)
    obtain ⟨v', ev, lv, _⟩ := cat_th hC ll hg (tl.trans (hqp.2.2.symm.trans h2))
    obtain rfl : u = u' := by omega
    obtain rfl : v = v' := by omega
    rcases spread_mem.1 hq with h | ⟨q0, hq0, f0, g0, hf0, hg0, hh, rfl⟩
    · have hin : [(u : Int), (v : Int)] ∈ spread c ps := spread_mem.2 (.inr ⟨q, h, f, g, hf, hg, ⟨by rw [ha]; exact h1, by rw [ha]; exact h2⟩, by unfold compS; rw [ha, hb, ek, el, eu, ev]⟩)
      have := relL_has hpp hin
      have hp2 := two_pair lu lv
      rwa [hp2.2.1, hp2.2.2] at this
    · obtain ⟨x0, y0, k0, l0, ek0, el0, lk0, ll0, ex0, ey0, lx0, ly0, e, hp, sx, tx, j1, j2⟩ := comp_two hC (hps q0 hq0).1 (hps q0 hq0).2 hf0 hg0 hh
      obtain ⟨_, _, la0, lb0⟩ := pair_at (hps q0 hq0).1
      have hp0 := (hps q0 hq0).2
      have hpe : pa (compS c q0 f0 g0) = x0 ∧ pb (compS c q0 f0 g0) = y0 := by rw [e]; exact (two_pair lx0 ly0).2
      rw [hpe.1] at ek h1 h2; rw [hpe.2] at el
      have t1 : at0 c.t (f : Int) = at0 c.s (f0 : Int) := h1.trans sx
      have t2 : at0 c.t (g0 : Int) = at0 c.s (g : Int) := tx.symm.trans h2
      obtain ⟨F, eF, lF, sF, tF⟩ := cat_th hC hf hf0 t1
      obtain ⟨G, eG, lG, sG, tG⟩ := cat_th hC hg0 hg t2
      -- f; (f0; a; g0); g = (f; f0); a; (g0; g)
      have key : ∀ a k0 x0 k u : Nat, a < c.s.length → k0 < c.s.length → x0 < c.s.length → at0 c.t (f0 : Int) = at0 c.s (a : Int) → at0 c.t (a : Int) = at0 c.s (g0 : Int) → c.th (f0 : Int) (a : Int) = k0 → c.th (k0 : Int) (g0 : Int) = x0 → c.th (f : Int) (x0 : Int) = k → c.th (k : Int) (g : Int) = u →
          c.th (c.th (F : Int) (a : Int)) (G : Int) = u := fun a k0 x0 k u lla llk llx r1 r2 q1 q2 q3 q4 => by
        obtain ⟨k0', e0, _, s0, t0⟩ := cat_th hC hf0 lla r1
        obtain rfl : k0 = k0' := by omega
        obtain ⟨x0', e1, _, s1, t1'⟩ := cat_th hC llk hg0 (t0.trans r2)
        obtain rfl : x0 = x0' := by omega
        have a1 := cat_as hC hf llx hg (t1.trans (by rw [s1, s0])) (by rw [t1', t2])
        rw [q3] at a1
        have a2 := cat_as hC llk hg0 hg (by rw [t0, r2]) t2
        rw [q2, eG] at a2
        have a3 := cat_as hC hf llk lG (t1.trans s0.symm) (by rw [t0, r2, sG])
        have a4 := cat_as hC hf hf0 lla t1 r1
        rw [eF, q1] at a4
        rw [a4, a3, ← a2, ← a1, q4]
      have hin : [(u : Int), (v : Int)] ∈ spread c ps := spread_mem.2 (.inr ⟨q0, hq0, F, G, lF, lG, ?_, ?_⟩)
      · have := relL_has hpp hin
        have hp2 := two_pair lu lv
        rwa [hp2.2.1, hp2.2.2] at this
      · obtain ⟨hA, hB, _⟩ := pair_at (hps q0 hq0).1
        exact ⟨by rw [hA, tF]; exact j1, by rw [hA, sG]; exact j2⟩
      · obtain ⟨hA, hB, _⟩ := pair_at (hps q0 hq0).1
        unfold compS
        rw [hA, hB, key (pa q0) k0 x0 k u la0 lk0 lx0 j1 j2 ek0 ex0 ek eu, key (pb q0) l0 y0 l v lb0 ll0 ly0 (j1.trans hp0.1) (hp0.2.symm.trans j2) el0 ey0 el ev]
/-! ### Partitions -/
theorem mem_seen4 (l : List Int) (x : Int) : x ∈ seenOf l ↔ x ∈ l := mem_seenOf l x
theorem getD_idx {s : List Int} {x : Int} (h : x ∈ s) : s.getD (s.idxOf x) 0 = x := by
  have hl := List.idxOf_lt_length_iff.2 h
  rw [List.getD_eq_getElem?_getD, List.getElem?_eq_getElem hl]
  simp
theorem idx_eq2 {s : List Int} {x y : Int} (hx : x ∈ s) (hy : y ∈ s) (h : s.idxOf x = s.idxOf y) : x = y := by
  rw [← getD_idx hx, ← getD_idx hy, h]
theorem seen_idx2 {l : List Int} {k : Nat} (hk : k < l.length) : ∀ m, k < m → m ≤ l.length → (seenOf (l.take m)).idxOf (l.getD k 0) = (seenOf (l.take k)).idxOf (l.getD k 0) := by
  intro m
  induction m with
  | zero => intro h; omega
  | succ m ih =>
    intro h1 h2
    rw [take_snoc (by omega), seenOf_snoc]
    by_cases hm : l.getD m 0 ∈ seenOf (l.take m)
    · rw [if_pos hm]
      by_cases he : k = m
      · rw [he]
      · exact ih (by omega) (by omega)
    · rw [if_neg hm]
      by_cases he : k = m
      · subst he
        rw [List.idxOf_append, if_neg hm, List.idxOf_eq_length hm]
        simp
      · have hin : l.getD k 0 ∈ seenOf (l.take m) := by
          rw [mem_seenOf, List.mem_take_iff_getElem]
          exact ⟨k, by omega, by simp [List.getD_eq_getElem?_getD, List.getElem?_eq_getElem hk]⟩
        rw [List.idxOf_append, if_pos hin]
        exact ih (by omega) (by omega)
theorem ker_cls2 (l : List Int) : Ker l (clsOf l) := by
  refine ⟨(clsOf_len l).symm, fun i j hi hj => ?_⟩
  rw [clsOf_getD hi, clsOf_getD hj, ← seen_idx2 hi l.length hi (Nat.le_refl _), ← seen_idx2 hj l.length hj (Nat.le_refl _), List.take_length]
  constructor
  · intro h; rw [h]
  · intro h
    exact idx_eq2 ((mem_seenOf _ _).2 (mem_getD hi)) ((mem_seenOf _ _).2 (mem_getD hj)) (by omega)
def nC (p : List Int) (k : Nat) : Nat := (seenOf (p.take k)).length
theorem nC_le (p : List Int) (k : Nat) : nC p k ≤ k := by
  have h := seenOf_len (p.take k)
  have : (p.take k).length ≤ k := by simp; omega
  exact Nat.le_trans h this
theorem seen_up {p : List Int} (hp : p = clsOf p) : ∀ k, k ≤ p.length → seenOf (p.take k) = upTo 0 (nC p k) := by
  intro k
  induction k with
  | zero => intro _; simp [nC, seenOf, upTo]
  | succ k ih =>
    intro hk
    have h := ih (by omega)
    have hst := proper_step hp (by omega) h
    have hsn := seenOf_snoc (p.take k) (p.getD k 0)
    rw [← take_snoc (by omega)] at hsn
    by_cases hx : p.getD k 0 = nC p k
    · have h2 : seenOf (p.take (k + 1)) = upTo 0 (nC p k + 1) := by
        rw [hsn, if_neg (by rw [h, hx]; exact not_mem_upTo (.inr (Int.le_refl _))), h, hx, ← upTo_succ]
      rw [h2]; congr 1
      show _ = (seenOf (p.take (k + 1))).length
      rw [h2, upTo_length]
    · have h2 : seenOf (p.take (k + 1)) = upTo 0 (nC p k) := by
        rw [hsn, if_pos (by rw [h]; exact mem_upTo hst.1 (by omega)), h]
      rw [h2]; congr 1
      show _ = (seenOf (p.take (k + 1))).length
      rw [h2, upTo_length]
theorem nC_t {p : List Int} (hp : p = clsOf p) {k : Nat} (hk : k < p.length) (hx : p.getD k 0 = nC p k) : nC p (k + 1) = nC p k + 1 ∧ p.idxOf (nC p k : Int) = k := by
  have h := seen_up hp k (by omega)
  have hst := proper_step hp (by omega) h
  have hsn := seenOf_snoc (p.take k) (p.getD k 0)
  rw [← take_snoc (by omega), if_neg (by rw [h, hx]; exact not_mem_upTo (.inr (Int.le_refl _)))] at hsn
  exact ⟨by show (seenOf (p.take (k + 1))).length = _; rw [hsn]; simp [nC], hst.2.2 hx⟩
theorem nC_f {p : List Int} (hp : p = clsOf p) {k : Nat} (hk : k < p.length) (hx : ¬ p.getD k 0 = nC p k) : nC p (k + 1) = nC p k := by
  have h := seen_up hp k (by omega)
  have hst := proper_step hp (by omega) h
  have hsn := seenOf_snoc (p.take k) (p.getD k 0)
  rw [← take_snoc (by omega), if_pos (by rw [h]; exact mem_upTo hst.1 (by omega))] at hsn
  show (seenOf (p.take (k + 1))).length = _; rw [hsn]; rfl
theorem lst_t {p : List Int} (hp : p = clsOf p) {k : Nat} (hk : k < p.length) (hx : at0 p (k : Int) = ((lstL p (nC p k)).length : Int)) : lstL p (nC p k) ++ [(k : Int)] = lstL p (nC p (k + 1)) := by
  rw [lstL_len, at0_nat] at hx
  have h := nC_t hp hk hx
  rw [h.1, lstL_snoc, h.2]
theorem lst_f {p : List Int} (hp : p = clsOf p) {k : Nat} (hk : k < p.length) (hx : ¬ at0 p (k : Int) = ((lstL p (nC p k)).length : Int)) : lstL p (nC p k) = lstL p (nC p (k + 1)) := by
  rw [lstL_len, at0_nat] at hx
  rw [nC_f hp hk hx]
theorem at0_memC {xs : List Int} {j : Nat} (h : j < xs.length) : at0 xs (j : Int) ∈ xs := by rw [at0_nat]; exact mem_getD h
theorem cls_rng {p : List Int} (hp : p = clsOf p) {k : Nat} (hk : k < p.length) : 0 ≤ at0 p (k : Int) ∧ at0 p (k : Int) < nC p p.length := by
  have h := seen_up hp p.length (Nat.le_refl _)
  rw [List.take_length] at h
  have hm : at0 p (k : Int) ∈ seenOf p := (mem_seenOf _ _).2 (at0_memC hk)
  rw [h] at hm
  simp only [upTo, List.mem_map, List.mem_range] at hm
  obtain ⟨j, hj, he⟩ := hm
  omega
def lfN (p : List Int) (k : Nat) : Nat := p.idxOf (at0 p (k : Int))
theorem lf_lt {p : List Int} {k : Nat} (hk : k < p.length) : lfN p k < p.length := List.idxOf_lt_length_of_mem (at0_memC hk)
theorem lf_cls {p : List Int} {k : Nat} (hk : k < p.length) : at0 p (lfN p k : Int) = at0 p (k : Int) := by rw [at0_nat]; exact getD_idx (at0_memC hk)
theorem lst_at {p : List Int} (hp : p = clsOf p) {k : Nat} (hk : k < p.length) : at0 (lstL p (nC p p.length)) (at0 p (k : Int)) = (lfN p k : Int) := by
  have hr := cls_rng hp hk
  obtain ⟨c, hc⟩ := Int.eq_ofNat_of_zero_le hr.1
  unfold lfN
  rw [hc] at hr ⊢
  rw [at0_nat, lstL_getD (by omega)]
theorem plist_mem {p : List Int} {n : Nat} {q : List Int} : q ∈ plist p n ↔ ∃ j, j < n ∧ q = [(lfN p j : Int), (j : Int)] := by
  simp only [plist, List.mem_map, List.mem_range, lfN, at0_nat]
  exact ⟨fun ⟨j, hj, h⟩ => ⟨j, hj, h.symm⟩, fun ⟨j, hj, h⟩ => ⟨j, hj, h.symm⟩⟩
theorem plist_par {c : Cat} {p : List Int} (hl : p.length = c.s.length) (h : ∀ j : Nat, j < c.s.length → Par c (lfN p j) j) : ParL c (plist p p.length) := fun q hq => by
  obtain ⟨j, hj, rfl⟩ := plist_mem.1 hq
  have hlt := lf_lt hj
  have h2 := two_pair (n := c.s.length) (x := lfN p j) (y := j) (by omega) (by omega)
  exact ⟨h2.1, by rw [h2.2.1, h2.2.2]; exact h j (by omega)⟩
/-- What the model asks of a congruence, and what the program asks. -/
def congM (c : Cat) (p : List Int) : Prop := (p.length = c.s.length ∧ PartP p) ∧ (∀ j : Nat, j < c.s.length → Par c (lfN p j) j) ∧ p = clsOf (specL c.s.length (spread c (plist p p.length)))
def respC (c : Cat) (p : List Int) (f g : Nat) : Prop := c.th (f : Int) (g : Int) ≠ -1 → at0 p (c.th (f : Int) (g : Int)) = at0 p (c.th (lfN p f : Int) (lfN p g : Int))
def congI (c : Cat) (p : List Int) : Prop := (p.length = c.s.length ∧ p = clsOf p) ∧ (∀ j : Nat, j < c.s.length → Par c j (lfN p j)) ∧ ∀ f : Nat, f < c.s.length → ∀ g : Nat, g < c.s.length → respC c p f g
def idL (c : Cat) (f : Nat) : Nat := (at0 c.e (at0 c.s (f : Int))).toNat
def idR (c : Cat) (f : Nat) : Nat := (at0 c.e (at0 c.t (f : Int))).toNat
theorem cat_ids {c : Cat} (hC : IsCat c) {f : Nat} (hf : f < c.s.length) :
    (idL c f < c.s.length ∧ at0 c.t (idL c f : Int) = at0 c.s (f : Int) ∧ at0 c.s (idL c f : Int) = at0 c.s (f : Int) ∧ c.th (idL c f : Int) (f : Int) = f) ∧ idR c f < c.s.length ∧ at0 c.s (idR c f : Int) = at0 c.t (f : Int) ∧ at0 c.t (idR c f : Int) = at0 c.t (f : Int) ∧ c.th (f : Int) (idR c f : Int) = f := by
  have hS := hC.toShapeP
  have h1 := allP_at hS.sa hf
  have h2 := allP_at hS.ta (k := f) (by rw [hS.tl]; exact hf)
  have i1 := hS.idn h1.1 h1.2
  have i2 := hS.idn h2.1 h2.2
  have hi := hC.idl f hf
  have e1 : ((idL c f : Nat) : Int) = at0 c.e (at0 c.s (f : Int)) := Int.toNat_of_nonneg i1.1
  have e2 : ((idR c f : Nat) : Int) = at0 c.e (at0 c.t (f : Int)) := Int.toNat_of_nonneg i2.1
  rw [e1, e2]
  exact ⟨⟨by omega, i1.2.2.2, i1.2.2.1, hi.1⟩, by omega, i2.2.2.1, i2.2.2.2, hi.2⟩
theorem idL_par {c : Cat} {f g : Nat} (h : Par c f g) : idL c f = idL c g := by unfold idL; rw [h.1]
theorem idR_par {c : Cat} {f g : Nat} (h : at0 c.t (f : Int) = at0 c.t (g : Int)) : idR c f = idR c g := by unfold idR; rw [h]
theorem lf_same {p : List Int} {i j : Nat} (h : at0 p (i : Int) = at0 p (j : Int)) : lfN p i = lfN p j := by unfold lfN; rw [h]
theorem cong_main {c : Cat} (hC : IsCat c) {p : List Int} (hl : p.length = c.s.length) (hp : p = clsOf p) (hpar : ∀ j : Nat, j < c.s.length → Par c (lfN p j) j) :
    p = clsOf (specL c.s.length (spread c (plist p p.length))) ↔ ∀ f : Nat, f < c.s.length → ∀ g : Nat, g < c.s.length → respC c p f g := by
  have hS := hC.toShapeP
  have hn40 := hS.n40
  have th1 : ∀ {f g : Nat}, f < c.s.length → g < c.s.length → (c.th (f : Int) (g : Int) = -1 ↔ at0 c.t (f : Int) ≠ at0 c.s (g : Int)) := fun hf hg => th_none hS (by omega) (by omega) (by omega) (by omega)
  have hPL := plist_par hl hpar
  have hsp := spread_pair hC hPL
  have hpp : ∀ q ∈ spread c (plist p p.length), PairP c.s.length q := fun q hq => (hsp q hq).1
  have has : ∀ {x y : Nat}, x < c.s.length → y < c.s.length → [(x : Int), (y : Int)] ∈ spread c (plist p p.length) → RelL c.s.length (spread c (plist p p.length)) x y := fun {x y} hx hy hin => by
    have h := relL_has hpp hin
    have h2 := two_pair hx hy
    rwa [h2.2.1, h2.2.2] at h
  constructor
  · intro he f hf g hg hne
    have hco : at0 c.t (f : Int) = at0 c.s (g : Int) := Classical.not_not.1 fun h => hne ((th1 hf hg).2 h)
    have hk := ker_cls2 (specL c.s.length (spread c (plist p p.length)))
    rw [← he] at hk
    have rel : ∀ x y : Nat, x < c.s.length → y < c.s.length → RelL c.s.length (spread c (plist p p.length)) x y → at0 p (x : Int) = at0 p (y : Int) := fun x y hx hy h => by
      rw [at0_nat, at0_nat]
      exact (hk.2 x y (by rw [specL_len]; exact hx) (by rw [specL_len]; exact hy)).1 h
    have hlf := lf_lt (p := p) (k := f) (by omega); have hlg := lf_lt (p := p) (k := g) (by omega)
    rw [hl] at hlf hlg
    have pf := hpar f hf; have pg := hpar g hg
    obtain ⟨k1, e1, l1, s1, t1⟩ := cat_th hC hf hg hco
    obtain ⟨k2, e2, l2, s2, t2⟩ := cat_th hC hlf hg (pf.2.trans hco)
    obtain ⟨k3, e3, l3, s3, t3⟩ := cat_th hC hlf hlg (pf.2.trans (hco.trans pg.1.symm))
    have d1 := cat_ids hC hf; have d2 := cat_ids hC hlf
    have d3 := cat_ids hC l2; have d4 := cat_ids hC l3
    rw [idL_par pf] at d2
    have r1 : at0 p (k2 : Int) = at0 p (k1 : Int) := by
      refine rel k2 k1 l2 l1 (has l2 l1 (spread_mem.2 (.inr ⟨[(lfN p f : Int), (f : Int)], plist_mem.2 ⟨f, by omega, rfl⟩, idL c f, g, d1.1.1, hg, ⟨?_, ?_⟩, ?_⟩)))
      · exact d2.1.2.1
      · exact pf.2.trans hco
      · show [c.th (c.th (idL c f : Int) (lfN p f : Int)) (g : Int), c.th (c.th (idL c f : Int) (f : Int)) (g : Int)] = _
        rw [d2.1.2.2.2, d1.1.2.2.2, e1, e2]
    have hR : idR c k2 = idR c k3 := idR_par (by rw [t2, t3, pg.2])
    rw [hR] at d3
    have r2 : at0 p (k3 : Int) = at0 p (k2 : Int) := by
      refine rel k3 k2 l3 l2 (has l3 l2 (spread_mem.2 (.inr ⟨[(lfN p g : Int), (g : Int)], plist_mem.2 ⟨g, by omega, rfl⟩, lfN p f, idR c k3, hlf, d4.2.1, ⟨?_, ?_⟩, ?_⟩)))
      · exact pf.2.trans (hco.trans pg.1.symm)
      · exact t3.symm.trans d4.2.2.1.symm
      · show [c.th (c.th (lfN p f : Int) (lfN p g : Int)) (idR c k3 : Int), c.th (c.th (lfN p f : Int) (g : Int)) (idR c k3 : Int)] = _
        rw [e2, e3, d3.2.2.2.2, d4.2.2.2.2]
    rw [e1, e3, r2, r1]
  · intro hr
    refine (cls_self hl hp fun i j hi hj => ⟨fun h => ?_, fun h => ?_⟩).symm
    · have := relL_univ hpp (r := fun x y => at0 p (x : Int) = at0 p (y : Int)) ⟨fun _ => rfl, fun h => h.symm, fun h h' => h.trans h'⟩ (fun q hq => ?_) hi hj h
      · rwa [at0_nat, at0_nat] at this
      · rcases spread_mem.1 hq with h | ⟨q0, hq0, f, g, hf, hg, hh, rfl⟩
        · obtain ⟨m, hm, rfl⟩ := plist_mem.1 h
          have h2 := two_pair (n := c.s.length) (x := lfN p m) (y := m) (by have := lf_lt hm; omega) (by omega)
          rw [h2.2.1, h2.2.2]; exact lf_cls hm
        · obtain ⟨x, y, k, l, ek, el, lk, ll, ex, ey, lx, ly, e, hp2, sx, tx, j1, j2⟩ := comp_two hC (hPL q0 hq0).1 (hPL q0 hq0).2 hf hg hh
          have hpe : pa (compS c q0 f g) = x ∧ pb (compS c q0 f g) = y := by rw [e]; exact (two_pair lx ly).2
          rw [hpe.1, hpe.2]
          obtain ⟨m, hm, rfl⟩ := plist_mem.1 hq0
          have hlm := lf_lt hm
          have h2 := two_pair (n := c.s.length) (x := lfN p m) (y := m) (by omega) (by omega)
          rw [h2.2.1] at ek j1 j2; rw [h2.2.2] at el
          have q1 := hr f hf (lfN p m) (by omega) (by omega)
          have q2 := hr f hf m (by omega) (by omega)
          rw [ek, lf_same (lf_cls hm)] at q1
          rw [el] at q2
          have q3 := hr k lk g hg (by omega)
          have q4 := hr l ll g hg (by omega)
          rw [ex] at q3; rw [ey, ← lf_same (q1.trans q2.symm)] at q4
          exact q3.trans q4.symm
    · have hk : ∀ m, m < c.s.length → RelL c.s.length (spread c (plist p p.length)) (lfN p m) m := fun m hm => has (by have := lf_lt (p := p) (k := m) (by omega); omega) hm (spread_mem.2 (.inl (plist_mem.2 ⟨m, by omega, rfl⟩)))
      have h1 := hk i hi
      rw [lf_same (show at0 p (i : Int) = at0 p (j : Int) by rw [at0_nat, at0_nat]; exact h)] at h1
      exact (relL_eqv _ _).trans ((relL_eqv _ _).symm h1) (hk j hj)
theorem cong_iff {c : Cat} (hC : IsCat c) (p : List Int) : congM c p ↔ congI c p := by
  have hn40 := hC.toShapeP.n40
  constructor
  · rintro ⟨⟨hl, hp⟩, hpar, he⟩
    exact ⟨⟨hl, hp.2⟩, fun j hj => (par_eqv c).symm (hpar j hj), (cong_main hC hl hp.2 hpar).1 he⟩
  · rintro ⟨⟨hl, hp⟩, hpar, he⟩
    have hpar' : ∀ j : Nat, j < c.s.length → Par c (lfN p j) j := fun j hj => (par_eqv c).symm (hpar j hj)
    exact ⟨⟨hl, ⟨by omega, hp⟩⟩, hpar', (cong_main hC hl hp hpar').2 he⟩
theorem th_rng {c : Cat} (hS : ShapeP c) {f g : Nat} (hf : f < c.s.length) (hg : g < c.s.length) : c.th (f : Int) (g : Int) < c.s.length ∧ (c.th (f : Int) (g : Int) ≠ -1 → 0 ≤ c.th (f : Int) (g : Int)) := by
  by_cases he : at0 c.t (f : Int) = at0 c.s (g : Int)
  · have h := (th_ends hS (f := (f : Int)) (g := (g : Int)) (by omega) (by omega) (by omega) (by omega) he).1
    exact ⟨h.2, fun _ => h.1⟩
  · have h1 := (th_none hS (f := (f : Int)) (g := (g : Int)) (by omega) (by omega) (by omega) (by omega)).2 he
    exact ⟨by omega, fun h => absurd h1 h⟩
theorem th_par {c : Cat} (hS : ShapeP c) {p : List Int} (hall : ∀ j : Nat, j < c.s.length → Par c j (lfN p j)) (hl : p.length = c.s.length) {f g : Nat} (hf : f < c.s.length) (hg : g < c.s.length) (hne : c.th (f : Int) (g : Int) ≠ -1) :
    0 ≤ c.th (lfN p f : Int) (lfN p g : Int) ∧ c.th (lfN p f : Int) (lfN p g : Int) < c.s.length := by
  have h1 := th_none hS (f := (f : Int)) (g := (g : Int)) (by omega) (by omega) (by omega) (by omega)
  have he : at0 c.t (f : Int) = at0 c.s (g : Int) := Classical.not_not.1 fun h => hne (h1.2 h)
  have hlf := lf_lt (p := p) (k := f) (by omega); have hlg := lf_lt (p := p) (k := g) (by omega)
  exact (th_ends hS (f := (lfN p f : Int)) (g := (lfN p g : Int)) (by omega) (by omega) (by omega) (by omega) ((hall f hf).2.symm.trans (he.trans (hall g hg).1))).1
end Go.Proofs.Ytgkfampgofjkfaa
