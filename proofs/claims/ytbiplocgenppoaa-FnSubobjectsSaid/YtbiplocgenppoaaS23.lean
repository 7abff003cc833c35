import Derived.Test.YtbiplocgenppoaaS4
import Derived.Test.YtbiplocgenppoaaS22
import Derived.Test.YtbiplocgenppoaaS18
import Derived.Test.YtbiplocgenppoaaS14
import Derived.Test.YtbiplocgenppoaaS10
import Derived.Test.YtbiplocgenppoaaS17
set_option maxHeartbeats 1000000
set_option maxRecDepth 100000
set_option linter.unusedSimpArgs false
set_option linter.unusedVariables false
set_option linter.unusedSectionVars false
namespace Go.Proofs.Ytbiplocgenppoaa
open _root_.Go.Proofs.Try
open Go.RowKit
inductive Walk (n : Nat) (fr to : List Int) : Pay → Prop
 | nil (x : Nat) (h : x < n) : Walk n fr to ((x : Int), (x : Int), [])
 | snoc (q : Pay) (e : Nat) (hq : Walk n fr to q) (he : e < fr.length) (h : at0 fr (e : Int) = q.2.1) : Walk n fr to (q.1, at0 to (e : Int), q.2.2 ++ [(e : Int)])
variable {n : Nat} {fr to : List Int}
theorem Walk.app {p q : Pay} (hp : Walk n fr to p) (hq : Walk n fr to q) : p.2.1 = q.1 → Walk n fr to (p.1, q.2.1, p.2.2 ++ q.2.2) := by
 induction hq with
 | nil x h =>
  intro hx
  obtain ⟨a, b, l⟩ := p
  simp only at hx
  subst hx
  simpa using hp
 | snoc q e hq he h ih =>
  intro hx
  have := Walk.snoc _ e (ih hx) he h
  rw [← List.append_assoc]
  exact this
theorem Walk.rng {p : Pay} (hto : ∀ e : Nat, e < fr.length → 0 ≤ at0 to (e : Int) ∧ at0 to (e : Int) < n) (hp : Walk n fr to p) : (0 ≤ p.1 ∧ p.1 < n) ∧ 0 ≤ p.2.1 ∧ p.2.1 < n := by
 induction hp with
 | nil x h => exact ⟨⟨by show (0 : Int) ≤ (x : Int); omega, by show (x : Int) < n; omega⟩, by show (0 : Int) ≤ (x : Int); omega, by show (x : Int) < n; omega⟩
 | snoc q e hq he h ih => exact ⟨ih.1, hto e he⟩
theorem Walk.nil_to {p : Pay} (hp : Walk n fr to p) (h : p.2.2.length = 0) : p.2.1 = p.1 := by
 cases hp with
 | nil x hx => rfl
 | snoc q e hq he hh => simp at h
theorem Walk.to_eq {p q : Pay} (hp : Walk n fr to p) (hq : Walk n fr to q) (h1 : p.1 = q.1) (h2 : p.2.2 = q.2.2) : p.2.1 = q.2.1 := by
 cases hp with
 | nil x hx =>
  rw [hq.nil_to (by rw [← h2]; rfl)]; exact h1
 | snoc p' e hp' he hh =>
  cases hq with
  | nil x hx => simp at h2
  | snoc q' e' hq' he' hh' =>
   simp only at h2
   have h3 := congrArg (fun l => l.getLast?) h2
   simp only [List.getLast?_append, List.getLast?_singleton, Option.some_or, Option.some.injEq] at h3
   show at0 to (e : Int) = at0 to (e' : Int)
   rw [h3]
theorem bfs_walk : ∀ (f k : Nat) (L : List Pay), (∀ p ∈ L, Walk n fr to p) → ∀ p ∈ bfsP fr to f k L, Walk n fr to p
 | 0, _, _, h => h
 | f + 1, k, L, h => by
  rw [bfsP]
  split
  ·next hc =>
   refine bfs_walk f _ _ fun p hp => ?_
   rcases List.mem_append.1 hp with hp | hp
   ·exact h p hp
   obtain ⟨e, he, rfl⟩ := List.mem_map.1 hp
   obtain ⟨he1, he2⟩ := List.mem_filter.1 he
   refine Walk.snoc (L.getD k (0, 0, [])) e (h _ ?_) (List.mem_range.1 he1) (of_decide_eq_true he2)
   rw [List.getD_eq_getElem?_getD, List.getElem?_eq_getElem hc.1]
   exact List.getElem_mem hc.1
  exact h
theorem allP_walk : ∀ p ∈ allP n fr to, Walk n fr to p := bfs_walk _ _ _ fun p hp => by
 obtain ⟨x, hx, rfl⟩ := List.mem_map.1 hp
 exact .nil x (List.mem_range.1 hx)
theorem bfs_sub : ∀ (f k : Nat) (L : List Pay), ∀ p ∈ L, p ∈ bfsP fr to f k L
 | 0, _, _, _, h => h
 | f + 1, k, L, p, h => by
  rw [bfsP]
  split
  ·exact bfs_sub f _ _ p (List.mem_append.2 (.inl h))
  exact h
theorem bfs_closed : ∀ (f k : Nat) (L : List Pay), f + k = 41 → (bfsP fr to f k L).length ≤ 40 → (∀ j : Nat, j < k → ∀ p ∈ extP fr to (L.getD j (0, 0, [])) fr.length, p ∈ L) →
  ∀ p ∈ bfsP fr to f k L, ∀ r ∈ extP fr to p fr.length, r ∈ bfsP fr to f k L
 | 0, k, L, hf, hl, h => fun p hp r hr => by
  obtain ⟨j, hj, rfl⟩ := List.getElem_of_mem hp
  have hj' : j < L.length := hj
  have hl' : L.length ≤ 40 := hl
  refine h j (by omega) r ?_
  rw [List.getD_eq_getElem?_getD, List.getElem?_eq_getElem hj']; exact hr
 | f + 1, k, L, hf, hl, h => by
  by_cases hc : k < L.length ∧ L.length ≤ 40
  ·rw [bfsP, if_pos hc] at hl ⊢
   refine bfs_closed f (k + 1) _ (by omega) hl fun j hj p hp => ?_
   have hjl : j < L.length := by omega
   rw [List.getD_eq_getElem?_getD, List.getElem?_append_left hjl, ← List.getD_eq_getElem?_getD] at hp
   by_cases hk : j = k
   ·subst hk; exact List.mem_append.2 (.inr hp)
   exact List.mem_append.2 (.inl (h j (by omega) p hp))
  rw [bfsP, if_neg hc] at hl ⊢
  intro p hp r hr
  obtain ⟨j, hj, rfl⟩ := List.getElem_of_mem hp
  refine h j (by omega) r ?_
  rw [List.getD_eq_getElem?_getD, List.getElem?_eq_getElem hj]; exact hr
theorem walk_all (hl : (allP n fr to).length ≤ 40) {p : Pay} (hp : Walk n fr to p) : p ∈ allP n fr to := by
 induction hp with
 | nil x h => exact bfs_sub _ _ _ _ (List.mem_map.2 ⟨x, List.mem_range.2 h, rfl⟩)
 | snoc q e hq he h ih =>
  exact bfs_closed 41 0 (startP n) rfl hl (fun j hj => absurd hj (by omega)) q ih _ (List.mem_map.2 ⟨e, List.mem_filter.2 ⟨List.mem_range.2 he, decide_eq_true h⟩, rfl⟩)
theorem at0_setN {l : List Int} {j x : Nat} {v : Int} (hj : j < l.length) : at0 (l.set j v) (x : Int) = if j = x then v else at0 l (x : Int) := by
 rw [at0_nat, at0_nat, List.getD_eq_getElem?_getD, List.getD_eq_getElem?_getD, List.getElem?_set]
 by_cases h : j = x
 ·rw [if_pos h, if_pos h, if_pos (by omega)]; rfl
 rw [if_neg h, if_neg h]
theorem idP_at {φ : Nat → Pay} : ∀ (i x : Nat), x < n → (∀ k, k < i → 0 ≤ (φ k).1 ∧ (φ k).1 < n) → (∃ k, k < i ∧ (φ k).2.2.length = 0 ∧ (φ k).1 = x) → ∃ k, k < i ∧ at0 (idP n φ i) (x : Int) = (k : Int) ∧ (φ k).2.2.length = 0 ∧ (φ k).1 = x
 | 0, _, _, _, ⟨k, hk, _⟩ => absurd hk (by omega)
 | i + 1, x, hx, hr, ⟨k, hk, h1, h2⟩ => by
  have hri := hr i (by omega)
  by_cases he : (φ i).2.2.length = 0
  ·rw [idP, if_pos he, at0_setN (by rw [idP_len]; omega)]
   by_cases hxi : (φ i).1 = x
   ·exact ⟨i, by omega, by rw [if_pos (by omega)], he, hxi⟩
   rw [if_neg (by omega)]
   have hki : k ≠ i := fun e => hxi (by rw [← e]; exact h2)
   obtain ⟨k', a, b, c⟩ := idP_at i x hx (fun k hk => hr k (by omega)) ⟨k, by omega, h1, h2⟩
   exact ⟨k', by omega, b, c⟩
  rw [idP, if_neg he]
  have hki : k ≠ i := fun e => he (by rw [← e]; exact h1)
  obtain ⟨k', a, b, c⟩ := idP_at i x hx (fun k hk => hr k (by omega)) ⟨k, by omega, h1, h2⟩
  exact ⟨k', by omega, b, c⟩
theorem cmP_at {φ : Nat → Pay} {i j : Nat} : ∀ m, (∃ k, k < m ∧ (φ k).1 = (φ i).1 ∧ (φ k).2.2 = (φ i).2.2 ++ (φ j).2.2) → ∃ k, k < m ∧ cmP φ i j m = (k : Int) ∧ (φ k).1 = (φ i).1 ∧ (φ k).2.2 = (φ i).2.2 ++ (φ j).2.2
 | 0, ⟨k, hk, _⟩ => absurd hk (by omega)
 | m + 1, ⟨k, hk, h⟩ => by
  by_cases hc : (φ m).1 = (φ i).1 ∧ (φ m).2.2 = (φ i).2.2 ++ (φ j).2.2
  ·exact ⟨m, by omega, by rw [cmP, if_pos hc], hc⟩
  have hkm : k ≠ m := fun e => hc (by rw [← e]; exact h)
  obtain ⟨k', a, b, c⟩ := cmP_at m ⟨k, by omega, h⟩
  exact ⟨k', by omega, by rw [cmP, if_neg hc]; exact b, c⟩
theorem tabTo_all {φ : Nat → Int} {m : Nat} {N : Int} (h : ∀ k, k < m → 0 ≤ φ k ∧ φ k < N) : AllP N (tabTo φ m) := fun x hx => by
 obtain ⟨k, hk, rfl⟩ := List.mem_map.1 hx
 exact h k (List.mem_range.1 hk)
theorem pathsC_shape {φ : Nat → Pay} {m : Nat} (hn : n ≤ 8) (hm : m ≤ 40) (hto : ∀ e : Nat, e < fr.length → 0 ≤ at0 to (e : Int) ∧ at0 to (e : Int) < n) (h1 : ∀ k, k < m → Walk n fr to (φ k)) (h2 : ∀ p, Walk n fr to p → ∃ k, k < m ∧ φ k = p) : ShapeP (pathsC n φ m) := by
 rw [pathsC_fit ⟨hn, hm⟩]
 have hs : (tabTo (fun k => (φ k).1) m).length = m := tabTo_len _ _
 have ht : (tabTo (fun k => (φ k).2.1) m).length = m := tabTo_len _ _
 have hr : (rowsTo (rwP φ m) m).length = m := rowsTo_len _ _
 have hrng := fun k hk => (h1 k hk).rng hto
 have hS : ∀ k : Nat, k < m → at0 (tabTo (fun k => (φ k).1) m) (k : Int) = (φ k).1 := fun k hk => tabTo_at (fun k => (φ k).1) hk
 have hT : ∀ k : Nat, k < m → at0 (tabTo (fun k => (φ k).2.1) m) (k : Int) = (φ k).2.1 := fun k hk => tabTo_at (fun k => (φ k).2.1) hk
 refine { ob0 := by show (0 : Int) ≤ (n : Int); omega, ob8 := by show (n : Int) ≤ 8; omega, n40 := by rw [hs]; exact hm, el := by rw [idP_len], tl := by rw [hs, ht], ml := by rw [hs, hr], rl := ?_, sa := tabTo_all fun k hk => (hrng k hk).1, ta := tabTo_all fun k hk => (hrng k hk).2, id := ?_, co := ?_ }
 ·intro j hj
  rw [hr] at hj
  have := rowsTo_at (rwP φ m) hj
  rw [row2_of, Int.toNat_natCast] at this
  show ((rowsTo (rwP φ m) m).getD j []).length = _
  rw [this, hs, rwP, tabTo_len]
 ·intro x hx
  rw [idP_len] at hx
  obtain ⟨k0, hk0, hφ⟩ := h2 _ (Walk.nil (n := n) (fr := fr) (to := to) x hx)
  obtain ⟨k, hk, he, hl, hf⟩ := idP_at (n := n) (φ := φ) m x hx (fun k hk => (hrng k hk).1) ⟨k0, hk0, by rw [hφ]; rfl, by rw [hφ]⟩
  unfold okIdent Cat.arr
  dsimp only
  rw [he, hs, hS k hk, hT k hk]
  exact ⟨⟨by omega, by omega⟩, hf, by rw [(h1 k hk).nil_to hl]; exact hf⟩
 intro f g hf hg
 rw [hs] at hf hg
 have hth : Cat.th ⟨(n : Int), tabTo (fun k => (φ k).1) m, tabTo (fun k => (φ k).2.1) m, idP n φ m, rowsTo (rwP φ m) m⟩ (f : Int) (g : Int) = elP φ m f g := by
  unfold Cat.th
  dsimp only
  rw [rowsTo_at (rwP φ m) hf, rwP, tabTo_at _ hg]
 unfold okComp
 rw [hth]
 dsimp only
 rw [hT f hf, hS g hg, hS f hf, hT g hg]
 refine ⟨fun he => ?_, fun he => by rw [elP, if_neg he]⟩
 obtain ⟨k0, hk0, hφ⟩ := h2 _ ((h1 f hf).app (h1 g hg) he)
 obtain ⟨k, hk, hc, hp, hq⟩ := cmP_at (φ := φ) (i := f) (j := g) m ⟨k0, hk0, by rw [hφ], by rw [hφ]⟩
 rw [elP, if_pos he, hc, hS k hk, hT k hk]
 unfold Cat.arr
 dsimp only
 rw [hs]
 refine ⟨⟨by omega, by omega⟩, hp, ?_⟩
 have := (h1 k hk).to_eq (h1 k0 hk0) (by rw [hφ]; exact hp) (by rw [hφ]; exact hq)
 rw [this, hφ]
def wtP (p : Pay) : Nat := if p.2.1 = 0 then 13 else if p.2.1 = 1 then 4 else 1
def sumW (L : List Pay) : Nat := (L.map wtP).sum
theorem sumW_app (a b : List Pay) : sumW (a ++ b) = sumW a + sumW b := by simp [sumW]
theorem sumW_le {c : Nat} : ∀ (L : List Pay), (∀ p ∈ L, wtP p ≤ c) → sumW L ≤ L.length * c
 | [], _ => Nat.zero_le _
 | p :: L, h => by
  have h1 := sumW_le L fun q hq => h q (List.mem_cons_of_mem _ hq)
  have h2 := h p (List.mem_cons_self ..)
  simp only [sumW, List.map_cons, List.sum_cons, List.length_cons, Nat.succ_mul] at h1 ⊢
  omega
theorem len_sumW : ∀ L : List Pay, L.length ≤ sumW L
 | [] => Nat.zero_le _
 | p :: L => by
  have h1 := len_sumW L
  have h2 : 1 ≤ wtP p := by unfold wtP; split; omega; split <;> omega
  simp only [sumW, List.map_cons, List.sum_cons, List.length_cons] at h1 ⊢
  omega
structure Small (n : Nat) (fr to : List Int) : Prop where
 n3 : n ≤ 3
 d3 : fr.length ≤ 3
 up : ∀ e : Nat, e < fr.length → 0 ≤ at0 fr (e : Int) ∧ at0 fr (e : Int) < at0 to (e : Int) ∧ at0 to (e : Int) < n
theorem ext_small (h : Small n fr to) (p : Pay) : sumW (extP fr to p fr.length) + 1 ≤ wtP p := by
 have hn3 := h.n3; have hd3 := h.d3
 have hl : (extP fr to p fr.length).length ≤ 3 := by
  have := List.length_filter_le (fun e : Nat => decide (at0 fr (e : Int) = p.2.1)) (List.range fr.length)
  rw [List.length_range] at this
  unfold extP
  rw [List.length_map]; omega
 have hm : ∀ q ∈ extP fr to p fr.length, p.2.1 < q.2.1 ∧ q.2.1 < n ∧ 0 ≤ p.2.1 := fun q hq => by
  obtain ⟨e, he, rfl⟩ := List.mem_map.1 hq
  obtain ⟨he1, he2⟩ := List.mem_filter.1 he
  have hu := h.up e (List.mem_range.1 he1)
  have hf : at0 fr (e : Int) = p.2.1 := of_decide_eq_true he2
  exact ⟨by show p.2.1 < at0 to (e : Int); omega, hu.2.2, by omega⟩
 by_cases h0 : p.2.1 = 0
 ·have := sumW_le (c := 4) _ fun q hq => by
   have := hm q hq
   unfold wtP
   rw [if_neg (by omega)]; split <;> omega
  have h13 : wtP p = 13 := by rw [wtP, if_pos h0]
  omega
 by_cases h1 : p.2.1 = 1
 ·have := sumW_le (c := 1) _ fun q hq => by
   have := hm q hq
   unfold wtP
   rw [if_neg (by omega), if_neg (by omega)]; omega
  have h4 : wtP p = 4 := by rw [wtP, if_neg h0, if_pos h1]
  omega
 have he : extP fr to p fr.length = [] := List.eq_nil_iff_forall_not_mem.2 fun q hq => by have := hm q hq; omega
 have h1 : wtP p = 1 := by rw [wtP, if_neg h0, if_neg h1]
 rw [he, h1]; exact Nat.le_refl _
theorem bfs_small (h : Small n fr to) : ∀ (f k : Nat) (L : List Pay), k ≤ L.length → k + sumW (L.drop k) ≤ 18 → (bfsP fr to f k L).length ≤ 18
 | 0, k, L, hk, hw => by
  have := len_sumW (L.drop k)
  rw [List.length_drop] at this
  show L.length ≤ 18; omega
 | f + 1, k, L, hk, hw => by
  rw [bfsP]
  split
  ·next hc =>
   refine bfs_small h f (k + 1) _ (by rw [List.length_append]; omega) ?_
   rw [List.drop_append_of_le_length (by omega), sumW_app]
   have hd : sumW (L.drop k) = wtP (L.getD k (0, 0, [])) + sumW (L.drop (k + 1)) := by
    rw [List.drop_eq_getElem_cons hc.1, List.getD_eq_getElem?_getD, List.getElem?_eq_getElem hc.1]; rfl
   have := ext_small h (L.getD k (0, 0, []))
   omega
  have := len_sumW (L.drop k)
  rw [List.length_drop] at this
  omega
theorem startP_w (hn : n ≤ 3) : sumW (startP n) ≤ 18 := by
 have h : n = 0 ∨ n = 1 ∨ n = 2 ∨ n = 3 := by omega
 rcases h with rfl | rfl | rfl | rfl <;> decide
theorem allP_small (h : Small n fr to) : (allP n fr to).length ≤ 18 := bfs_small h 41 0 (startP n) (Nat.zero_le _) (by simpa using startP_w h.n3)
theorem pathsE_shape (h : Small n fr to) {es : List (Ent Edg)} (hP : PathsP n fr to es) : ShapeP (pathsC n (payA es) es.length) ∧ (pathsC n (payA es) es.length).ob ≤ 3 ∧ (pathsC n (payA es) es.length).s.length ≤ 18 := by
 have hl := allP_small h
 have hle : es.length = (allP n fr to).length := by rw [← hP.1.length_eq, List.length_map]
 have hn := h.n3
 refine ⟨pathsC_shape (fr := fr) (to := to) (by omega) (by omega) (fun e he => ?_) (fun k hk => ?_) (fun p hp => ?_), ?_, ?_⟩
 ·have := h.up e he; omega
 ·exact allP_walk _ (hP.1.mem_iff.1 (List.mem_map.2 ⟨_, atE0_mem (by omega) (by omega), rfl⟩))
 ·obtain ⟨e, he, rfl⟩ := List.mem_map.1 (hP.1.mem_iff.2 (walk_all (by omega) hp))
  obtain ⟨k, hk, rfl⟩ := List.getElem_of_mem he
  exact ⟨k, hk, by rw [payA, atE0_get hk]⟩
 ·show (n : Int) ≤ 3; omega
 show (tabTo _ _).length ≤ 18; rw [tabTo_len]; omega
end Go.Proofs.Ytbiplocgenppoaa
namespace Go.Proofs.Ytbiplocgenppoaa
open _root_.Go.Proofs.Try
open Go.RowKit
def asc (r : List (List Int)) (i j k : Nat) : Prop := at0 (row2 r (at0 (row2 r (i : Int)) (j : Int))) (k : Int) = at0 (row2 r (i : Int)) (at0 (row2 r (j : Int)) (k : Int))
def monC (r : List (List Int)) : Cat := ⟨1, List.replicate r.length 0, List.replicate r.length 0, [0], r⟩
theorem rep_at {n i : Nat} (h : i < n) : at0 (List.replicate n 0) (i : Int) = 0 := by
 rw [at0_nat]; simp [List.getD_eq_getElem?_getD, List.getElem?_replicate, h]
theorem mon_shape {r : List (List Int)} (h0 : 0 < r.length) (hq : SquareP r r.length) (h40 : r.length ≤ 40) : ShapeP (monC r) := by
 have he : ∀ x : Nat, x < 1 → at0 (monC r).e (x : Int) = 0 := fun x hx => by
  have h : x = 0 := by omega
  subst h; rfl
 refine shape_by (N := 1) (m := r.length) (S := fun _ => 0) (T := fun _ => 0) (E := fun _ => 0) (M := fun f g => at0 (row2 r (f : Int)) (g : Int)) rfl (by omega) h40 (by simp [monC]) (by simp [monC]) rfl rfl
  (fun f hf => (hq f hf).1) (fun f hf => rep_at hf) (fun f hf => rep_at hf) he (fun f g hf hg => rfl)
  (fun f hf => ⟨Int.le_refl _, by decide⟩) (fun f hf => ⟨Int.le_refl _, by decide⟩) (fun x hx => ⟨Int.le_refl _, by show (0 : Int) < r.length; omega, by show (0 : Int) = x; omega, by show (0 : Int) = x; omega⟩) (fun f g hf hg => ⟨fun _ => ?_, fun e => absurd rfl e⟩)
 have := sq_at hq hf hg
 exact ⟨this.1, this.2, rfl, rfl⟩
theorem specMonoidC_any (w : World) (u : Value) (r : List (List Int)) (hu : Rd2 w u r) :
  Calls Try.prog 98 #[u] w (RetC w (monC r)) := by
 obtain ⟨ua, uc, rfl⟩ := rd2_form hu
 have hul := rd2_len hu
 go_enter func98, Try.ntmps98
 refine gc_enter (N := 14) rfl (look_cons (k := 0) rfl (look_nil _)) ?_
 refine gc_sr fun K1 hK1 => ?_
 refine gop fun K3 hK3 => ?_
 refine galC ?_
 intro B2
 refine hK3 _ _ ?_
 refine gnt (hK1 _ _ ?_)
 refine gc_sr fun K4 hK4 => ?_
 refine gm ?_
 refine gv (qt_len rfl rfl ulE2 (fun w M => lenV_rd2 hu)) ?_
 refine gas ?_
 refine gnt (hK4 _ _ ?_)
 refine gc_seq fun K5 hK5 => ?_
 try simp only [sL]
 refine ga_start _ (fun w M => mem_erase 0 (M)) ?_
 refine gav 0 rfl (qt_move rfl rfl) ?_
 refine gav 2 rfl (qt_move rfl rfl) ?_
 refine gav 5 rfl (qt_move rfl rfl) ?_
 refine ga_four 1 3 4 6 (by kernel_rfl) rfl (.free rfl) rfl (.free rfl) rfl (.free rfl) rfl (.free rfl) (fun K6 hK6 => ?_) (fun K6 hK6 => ?_) (fun K6 hK6 => ?_) (fun K6 hK6 => ?_)
 ·refine go_make1 rfl rfl rfl underlying24 rfl rfl (by omega) ?_
  intro B7
  refine hK6 _ _ (fun w M => (ms1 0 1 M :)) ?_
  refine ga_three 3 4 6 (by kernel_rfl) rfl (.free rfl) rfl (.free rfl) rfl (.free rfl) (fun K9 hK9 => ?_) (fun K9 hK9 => ?_) (fun K9 hK9 => ?_)
  ·refine go_make1 rfl rfl rfl underlying24 rfl rfl (by omega) ?_
   intro B10
   refine hK9 _ _ (fun w M => (ms1 0 1 M :)) ?_
   refine gat 4 6 (fun K12 hK12 => ?_) (fun K12 hK12 => ?_)
   ·refine go_slice1 rfl rfl rfl rfl underlying24 ?_
    intro B13
    refine hK12 _ _ (fun w M => (ms1 0 1 M :)) ?_
    refine gao 6 fun K16 hK16 => ?_
    refine go_callR rfl rfl rfl func103 rfl (by decide) rfl (fun w M => specOwn2_any w _ _ (mem_rd2 M hu)) ?_
    intro va15 vc15 us15
    refine hK16 _ _ (fun w M => (ms1 0 1 M :)) ?_
    refine gav 7 rfl (qt_build rfl rfl bt_Category) ?_
    refine gao 8 fun K17 hK17 => ?_
    refine gss 0 ?_
    refine hK17 _ _ (fun w M => (ms1 0 1 M :)) ?_
    refine ga_done (by kernel_rfl) ?_
    refine gk_then (hK5 _ _ ?_)
    refine gc_ret ?_
    refine ret_S (n := 0) rfl rfl underlying27 rfl (by kernel_rfl) rfl (fun w M => ?_)
    exact ⟨_, rfl, ownC_star (c := monC r) (mem_pick (n := 4) (mem_pick (n := 4) (mem_pick (n := 4) (mem_pick (n := 4) (M) rfl) rfl) rfl) rfl).2, M.1⟩
   refine go_callR rfl rfl rfl func103 rfl (by decide) rfl (fun w M => specOwn2_any w _ _ (mem_rd2 M hu)) ?_
   intro va18 vc18 us18
   refine hK12 _ _ (fun w M => (ms1 0 1 M :)) ?_
   refine gao 4 fun K21 hK21 => ?_
   refine go_slice1 rfl rfl rfl rfl underlying24 ?_
   intro B20
   refine hK21 _ _ (fun w M => (ms1 0 1 M :)) ?_
   refine gav 7 rfl (qt_build rfl rfl bt_Category) ?_
   refine gao 8 fun K22 hK22 => ?_
   refine gss 0 ?_
   refine hK22 _ _ (fun w M => (ms1 0 1 M :)) ?_
   refine ga_done (by kernel_rfl) ?_
   refine gk_then (hK5 _ _ ?_)
   refine gc_ret ?_
   refine ret_S (n := 0) rfl rfl underlying27 rfl (by kernel_rfl) rfl (fun w M => ?_)
   exact ⟨_, rfl, ownC_star (c := monC r) (mem_pick (n := 4) (mem_pick (n := 4) (mem_pick (n := 4) (mem_pick (n := 3) (M) rfl) rfl) rfl) rfl).2, M.1⟩
  ·refine go_slice1 rfl rfl rfl rfl underlying24 ?_
   intro B23
   refine hK9 _ _ (fun w M => (ms1 0 1 M :)) ?_
   refine gat 3 6 (fun K25 hK25 => ?_) (fun K25 hK25 => ?_)
   ·refine go_make1 rfl rfl rfl underlying24 rfl rfl (by omega) ?_
    intro B26
    refine hK25 _ _ (fun w M => (ms1 0 1 M :)) ?_
    refine gao 6 fun K29 hK29 => ?_
    refine go_callR rfl rfl rfl func103 rfl (by decide) rfl (fun w M => specOwn2_any w _ _ (mem_rd2 M hu)) ?_
    intro va28 vc28 us28
    refine hK29 _ _ (fun w M => (ms1 0 1 M :)) ?_
    refine gav 7 rfl (qt_build rfl rfl bt_Category) ?_
    refine gao 8 fun K30 hK30 => ?_
    refine gss 0 ?_
    refine hK30 _ _ (fun w M => (ms1 0 1 M :)) ?_
    refine ga_done (by kernel_rfl) ?_
    refine gk_then (hK5 _ _ ?_)
    refine gc_ret ?_
    refine ret_S (n := 0) rfl rfl underlying27 rfl (by kernel_rfl) rfl (fun w M => ?_)
    exact ⟨_, rfl, ownC_star (c := monC r) (mem_pick (n := 4) (mem_pick (n := 4) (mem_pick (n := 3) (mem_pick (n := 4) (M) rfl) rfl) rfl) rfl).2, M.1⟩
   refine go_callR rfl rfl rfl func103 rfl (by decide) rfl (fun w M => specOwn2_any w _ _ (mem_rd2 M hu)) ?_
   intro va31 vc31 us31
   refine hK25 _ _ (fun w M => (ms1 0 1 M :)) ?_
   refine gao 3 fun K34 hK34 => ?_
   refine go_make1 rfl rfl rfl underlying24 rfl rfl (by omega) ?_
   intro B33
   refine hK34 _ _ (fun w M => (ms1 0 1 M :)) ?_
   refine gav 7 rfl (qt_build rfl rfl bt_Category) ?_
   refine gao 8 fun K35 hK35 => ?_
   refine gss 0 ?_
   refine hK35 _ _ (fun w M => (ms1 0 1 M :)) ?_
   refine ga_done (by kernel_rfl) ?_
   refine gk_then (hK5 _ _ ?_)
   refine gc_ret ?_
   refine ret_S (n := 0) rfl rfl underlying27 rfl (by kernel_rfl) rfl (fun w M => ?_)
   exact ⟨_, rfl, ownC_star (c := monC r) (mem_pick (n := 4) (mem_pick (n := 4) (mem_pick (n := 3) (mem_pick (n := 3) (M) rfl) rfl) rfl) rfl).2, M.1⟩
  refine go_callR rfl rfl rfl func103 rfl (by decide) rfl (fun w M => specOwn2_any w _ _ (mem_rd2 M hu)) ?_
  intro va36 vc36 us36
  refine hK9 _ _ (fun w M => (ms1 0 1 M :)) ?_
  refine gat 3 4 (fun K38 hK38 => ?_) (fun K38 hK38 => ?_)
  ·refine go_make1 rfl rfl rfl underlying24 rfl rfl (by omega) ?_
   intro B39
   refine hK38 _ _ (fun w M => (ms1 0 1 M :)) ?_
   refine gao 4 fun K42 hK42 => ?_
   refine go_slice1 rfl rfl rfl rfl underlying24 ?_
   intro B41
   refine hK42 _ _ (fun w M => (ms1 0 1 M :)) ?_
   refine gav 7 rfl (qt_build rfl rfl bt_Category) ?_
   refine gao 8 fun K43 hK43 => ?_
   refine gss 0 ?_
   refine hK43 _ _ (fun w M => (ms1 0 1 M :)) ?_
   refine ga_done (by kernel_rfl) ?_
   refine gk_then (hK5 _ _ ?_)
   refine gc_ret ?_
   refine ret_S (n := 0) rfl rfl underlying27 rfl (by kernel_rfl) rfl (fun w M => ?_)
   exact ⟨_, rfl, ownC_star (c := monC r) (mem_pick (n := 4) (mem_pick (n := 4) (mem_pick (n := 4) (mem_pick (n := 2) (M) rfl) rfl) rfl) rfl).2, M.1⟩
  refine go_slice1 rfl rfl rfl rfl underlying24 ?_
  intro B44
  refine hK38 _ _ (fun w M => (ms1 0 1 M :)) ?_
  refine gao 3 fun K47 hK47 => ?_
  refine go_make1 rfl rfl rfl underlying24 rfl rfl (by omega) ?_
  intro B46
  refine hK47 _ _ (fun w M => (ms1 0 1 M :)) ?_
  refine gav 7 rfl (qt_build rfl rfl bt_Category) ?_
  refine gao 8 fun K48 hK48 => ?_
  refine gss 0 ?_
  refine hK48 _ _ (fun w M => (ms1 0 1 M :)) ?_
  refine ga_done (by kernel_rfl) ?_
  refine gk_then (hK5 _ _ ?_)
  refine gc_ret ?_
  refine ret_S (n := 0) rfl rfl underlying27 rfl (by kernel_rfl) rfl (fun w M => ?_)
  exact ⟨_, rfl, ownC_star (c := monC r) (mem_pick (n := 4) (mem_pick (n := 4) (mem_pick (n := 3) (mem_pick (n := 2) (M) rfl) rfl) rfl) rfl).2, M.1⟩
 ·refine go_make1 rfl rfl rfl underlying24 rfl rfl (by omega) ?_
  intro B49
  refine hK6 _ _ (fun w M => (ms1 0 1 M :)) ?_
  refine ga_three 1 4 6 (by kernel_rfl) rfl (.free rfl) rfl (.free rfl) rfl (.free rfl) (fun K51 hK51 => ?_) (fun K51 hK51 => ?_) (fun K51 hK51 => ?_)
  ·refine go_make1 rfl rfl rfl underlying24 rfl rfl (by omega) ?_
   intro B52
   refine hK51 _ _ (fun w M => (ms1 0 1 M :)) ?_
   refine gat 4 6 (fun K54 hK54 => ?_) (fun K54 hK54 => ?_)
   ·refine go_slice1 rfl rfl rfl rfl underlying24 ?_
    intro B55
    refine hK54 _ _ (fun w M => (ms1 0 1 M :)) ?_
    refine gao 6 fun K58 hK58 => ?_
    refine go_callR rfl rfl rfl func103 rfl (by decide) rfl (fun w M => specOwn2_any w _ _ (mem_rd2 M hu)) ?_
    intro va57 vc57 us57
    refine hK58 _ _ (fun w M => (ms1 0 1 M :)) ?_
    refine gav 7 rfl (qt_build rfl rfl bt_Category) ?_
    refine gao 8 fun K59 hK59 => ?_
    refine gss 0 ?_
    refine hK59 _ _ (fun w M => (ms1 0 1 M :)) ?_
    refine ga_done (by kernel_rfl) ?_
    refine gk_then (hK5 _ _ ?_)
    refine gc_ret ?_
    refine ret_S (n := 0) rfl rfl underlying27 rfl (by kernel_rfl) rfl (fun w M => ?_)
    exact ⟨_, rfl, ownC_star (c := monC r) (mem_pick (n := 4) (mem_pick (n := 3) (mem_pick (n := 4) (mem_pick (n := 4) (M) rfl) rfl) rfl) rfl).2, M.1⟩
   refine go_callR rfl rfl rfl func103 rfl (by decide) rfl (fun w M => specOwn2_any w _ _ (mem_rd2 M hu)) ?_
   intro va60 vc60 us60
   refine hK54 _ _ (fun w M => (ms1 0 1 M :)) ?_
   refine gao 4 fun K63 hK63 => ?_
   refine go_slice1 rfl rfl rfl rfl underlying24 ?_
   intro B62
   refine hK63 _ _ (fun w M => (ms1 0 1 M :)) ?_
   refine gav 7 rfl (qt_build rfl rfl bt_Category) ?_
   refine gao 8 fun K64 hK64 => ?_
   refine gss 0 ?_
   refine hK64 _ _ (fun w M => (ms1 0 1 M :)) ?_
   refine ga_done (by kernel_rfl) ?_
   refine gk_then (hK5 _ _ ?_)
   refine gc_ret ?_
   refine ret_S (n := 0) rfl rfl underlying27 rfl (by kernel_rfl) rfl (fun w M => ?_)
   exact ⟨_, rfl, ownC_star (c := monC r) (mem_pick (n := 4) (mem_pick (n := 3) (mem_pick (n := 4) (mem_pick (n := 3) (M) rfl) rfl) rfl) rfl).2, M.1⟩
  ·refine go_slice1 rfl rfl rfl rfl underlying24 ?_
   intro B65
   refine hK51 _ _ (fun w M => (ms1 0 1 M :)) ?_
   refine gat 1 6 (fun K67 hK67 => ?_) (fun K67 hK67 => ?_)
   ·refine go_make1 rfl rfl rfl underlying24 rfl rfl (by omega) ?_
    intro B68
    refine hK67 _ _ (fun w M => (ms1 0 1 M :)) ?_
    refine gao 6 fun K71 hK71 => ?_
    refine go_callR rfl rfl rfl func103 rfl (by decide) rfl (fun w M => specOwn2_any w _ _ (mem_rd2 M hu)) ?_
    intro va70 vc70 us70
    refine hK71 _ _ (fun w M => (ms1 0 1 M :)) ?_
    refine gav 7 rfl (qt_build rfl rfl bt_Category) ?_
    refine gao 8 fun K72 hK72 => ?_
    refine gss 0 ?_
    refine hK72 _ _ (fun w M => (ms1 0 1 M :)) ?_
    refine ga_done (by kernel_rfl) ?_
    refine gk_then (hK5 _ _ ?_)
    refine gc_ret ?_
    refine ret_S (n := 0) rfl rfl underlying27 rfl (by kernel_rfl) rfl (fun w M => ?_)
    exact ⟨_, rfl, ownC_star (c := monC r) (mem_pick (n := 4) (mem_pick (n := 3) (mem_pick (n := 3) (mem_pick (n := 4) (M) rfl) rfl) rfl) rfl).2, M.1⟩
   refine go_callR rfl rfl rfl func103 rfl (by decide) rfl (fun w M => specOwn2_any w _ _ (mem_rd2 M hu)) ?_
   intro va73 vc73 us73
   refine hK67 _ _ (fun w M => (ms1 0 1 M :)) ?_
   refine gao 1 fun K76 hK76 => ?_
   refine go_make1 rfl rfl rfl underlying24 rfl rfl (by omega) ?_
   intro B75
   refine hK76 _ _ (fun w M => (ms1 0 1 M :)) ?_
   refine gav 7 rfl (qt_build rfl rfl bt_Category) ?_
   refine gao 8 fun K77 hK77 => ?_
   refine gss 0 ?_
   refine hK77 _ _ (fun w M => (ms1 0 1 M :)) ?_
   refine ga_done (by kernel_rfl) ?_
   refine gk_then (hK5 _ _ ?_)
   refine gc_ret ?_
   refine ret_S (n := 0) rfl rfl underlying27 rfl (by kernel_rfl) rfl (fun w M => ?_)
   exact ⟨_, rfl, ownC_star (c := monC r) (mem_pick (n := 4) (mem_pick (n := 3) (mem_pick (n := 3) (mem_pick (n := 3) (M) rfl) rfl) rfl) rfl).2, M.1⟩
  refine go_callR rfl rfl rfl func103 rfl (by decide) rfl (fun w M => specOwn2_any w _ _ (mem_rd2 M hu)) ?_
  intro va78 vc78 us78
  refine hK51 _ _ (fun w M => (ms1 0 1 M :)) ?_
  refine gat 1 4 (fun K80 hK80 => ?_) (fun K80 hK80 => ?_)
  ·refine go_make1 rfl rfl rfl underlying24 rfl rfl (by omega) ?_
   intro B81
   refine hK80 _ _ (fun w M => (ms1 0 1 M :)) ?_
   refine gao 4 fun K84 hK84 => ?_
   refine go_slice1 rfl rfl rfl rfl underlying24 ?_
   intro B83
   refine hK84 _ _ (fun w M => (ms1 0 1 M :)) ?_
   refine gav 7 rfl (qt_build rfl rfl bt_Category) ?_
   refine gao 8 fun K85 hK85 => ?_
   refine gss 0 ?_
   refine hK85 _ _ (fun w M => (ms1 0 1 M :)) ?_
   refine ga_done (by kernel_rfl) ?_
   refine gk_then (hK5 _ _ ?_)
   refine gc_ret ?_
   refine ret_S (n := 0) rfl rfl underlying27 rfl (by kernel_rfl) rfl (fun w M => ?_)
   exact ⟨_, rfl, ownC_star (c := monC r) (mem_pick (n := 4) (mem_pick (n := 3) (mem_pick (n := 4) (mem_pick (n := 2) (M) rfl) rfl) rfl) rfl).2, M.1⟩
  refine go_slice1 rfl rfl rfl rfl underlying24 ?_
  intro B86
  refine hK80 _ _ (fun w M => (ms1 0 1 M :)) ?_
  refine gao 1 fun K89 hK89 => ?_
  refine go_make1 rfl rfl rfl underlying24 rfl rfl (by omega) ?_
  intro B88
  refine hK89 _ _ (fun w M => (ms1 0 1 M :)) ?_
  refine gav 7 rfl (qt_build rfl rfl bt_Category) ?_
  refine gao 8 fun K90 hK90 => ?_
  refine gss 0 ?_
  refine hK90 _ _ (fun w M => (ms1 0 1 M :)) ?_
  refine ga_done (by kernel_rfl) ?_
  refine gk_then (hK5 _ _ ?_)
  refine gc_ret ?_
  refine ret_S (n := 0) rfl rfl underlying27 rfl (by kernel_rfl) rfl (fun w M => ?_)
  exact ⟨_, rfl, ownC_star (c := monC r) (mem_pick (n := 4) (mem_pick (n := 3) (mem_pick (n := 3) (mem_pick (n := 2) (M) rfl) rfl) rfl) rfl).2, M.1⟩
 ·refine go_slice1 rfl rfl rfl rfl underlying24 ?_
  intro B91
  refine hK6 _ _ (fun w M => (ms1 0 1 M :)) ?_
  refine ga_three 1 3 6 (by kernel_rfl) rfl (.free rfl) rfl (.free rfl) rfl (.free rfl) (fun K93 hK93 => ?_) (fun K93 hK93 => ?_) (fun K93 hK93 => ?_)
  ·refine go_make1 rfl rfl rfl underlying24 rfl rfl (by omega) ?_
   intro B94
   refine hK93 _ _ (fun w M => (ms1 0 1 M :)) ?_
   refine gat 3 6 (fun K96 hK96 => ?_) (fun K96 hK96 => ?_)
   ·refine go_make1 rfl rfl rfl underlying24 rfl rfl (by omega) ?_
    intro B97
    refine hK96 _ _ (fun w M => (ms1 0 1 M :)) ?_
    refine gao 6 fun K100 hK100 => ?_
    refine go_callR rfl rfl rfl func103 rfl (by decide) rfl (fun w M => specOwn2_any w _ _ (mem_rd2 M hu)) ?_
    intro va99 vc99 us99
    refine hK100 _ _ (fun w M => (ms1 0 1 M :)) ?_
    refine gav 7 rfl (qt_build rfl rfl bt_Category) ?_
    refine gao 8 fun K101 hK101 => ?_
    refine gss 0 ?_
    refine hK101 _ _ (fun w M => (ms1 0 1 M :)) ?_
    refine ga_done (by kernel_rfl) ?_
    refine gk_then (hK5 _ _ ?_)
    refine gc_ret ?_
    refine ret_S (n := 0) rfl rfl underlying27 rfl (by kernel_rfl) rfl (fun w M => ?_)
    exact ⟨_, rfl, ownC_star (c := monC r) (mem_pick (n := 4) (mem_pick (n := 4) (mem_pick (n := 2) (mem_pick (n := 4) (M) rfl) rfl) rfl) rfl).2, M.1⟩
   refine go_callR rfl rfl rfl func103 rfl (by decide) rfl (fun w M => specOwn2_any w _ _ (mem_rd2 M hu)) ?_
   intro va102 vc102 us102
   refine hK96 _ _ (fun w M => (ms1 0 1 M :)) ?_
   refine gao 3 fun K105 hK105 => ?_
   refine go_make1 rfl rfl rfl underlying24 rfl rfl (by omega) ?_
   intro B104
   refine hK105 _ _ (fun w M => (ms1 0 1 M :)) ?_
   refine gav 7 rfl (qt_build rfl rfl bt_Category) ?_
   refine gao 8 fun K106 hK106 => ?_
   refine gss 0 ?_
   refine hK106 _ _ (fun w M => (ms1 0 1 M :)) ?_
   refine ga_done (by kernel_rfl) ?_
   refine gk_then (hK5 _ _ ?_)
   refine gc_ret ?_
   refine ret_S (n := 0) rfl rfl underlying27 rfl (by kernel_rfl) rfl (fun w M => ?_)
   exact ⟨_, rfl, ownC_star (c := monC r) (mem_pick (n := 4) (mem_pick (n := 4) (mem_pick (n := 2) (mem_pick (n := 3) (M) rfl) rfl) rfl) rfl).2, M.1⟩
  ·refine go_make1 rfl rfl rfl underlying24 rfl rfl (by omega) ?_
   intro B107
   refine hK93 _ _ (fun w M => (ms1 0 1 M :)) ?_
   refine gat 1 6 (fun K109 hK109 => ?_) (fun K109 hK109 => ?_)
   ·refine go_make1 rfl rfl rfl underlying24 rfl rfl (by omega) ?_
    intro B110
    refine hK109 _ _ (fun w M => (ms1 0 1 M :)) ?_
    refine gao 6 fun K113 hK113 => ?_
    refine go_callR rfl rfl rfl func103 rfl (by decide) rfl (fun w M => specOwn2_any w _ _ (mem_rd2 M hu)) ?_
    intro va112 vc112 us112
    refine hK113 _ _ (fun w M => (ms1 0 1 M :)) ?_
    refine gav 7 rfl (qt_build rfl rfl bt_Category) ?_
    refine gao 8 fun K114 hK114 => ?_
    refine gss 0 ?_
    refine hK114 _ _ (fun w M => (ms1 0 1 M :)) ?_
    refine ga_done (by kernel_rfl) ?_
    refine gk_then (hK5 _ _ ?_)
    refine gc_ret ?_
    refine ret_S (n := 0) rfl rfl underlying27 rfl (by kernel_rfl) rfl (fun w M => ?_)
    exact ⟨_, rfl, ownC_star (c := monC r) (mem_pick (n := 4) (mem_pick (n := 3) (mem_pick (n := 2) (mem_pick (n := 4) (M) rfl) rfl) rfl) rfl).2, M.1⟩
   refine go_callR rfl rfl rfl func103 rfl (by decide) rfl (fun w M => specOwn2_any w _ _ (mem_rd2 M hu)) ?_
   intro va115 vc115 us115
   refine hK109 _ _ (fun w M => (ms1 0 1 M :)) ?_
   refine gao 1 fun K118 hK118 => ?_
   refine go_make1 rfl rfl rfl underlying24 rfl rfl (by omega) ?_
   intro B117
   refine hK118 _ _ (fun w M => (ms1 0 1 M :)) ?_
   refine gav 7 rfl (qt_build rfl rfl bt_Category) ?_
   refine gao 8 fun K119 hK119 => ?_
   refine gss 0 ?_
   refine hK119 _ _ (fun w M => (ms1 0 1 M :)) ?_
   refine ga_done (by kernel_rfl) ?_
   refine gk_then (hK5 _ _ ?_)
   refine gc_ret ?_
   refine ret_S (n := 0) rfl rfl underlying27 rfl (by kernel_rfl) rfl (fun w M => ?_)
   exact ⟨_, rfl, ownC_star (c := monC r) (mem_pick (n := 4) (mem_pick (n := 3) (mem_pick (n := 2) (mem_pick (n := 3) (M) rfl) rfl) rfl) rfl).2, M.1⟩
  refine go_callR rfl rfl rfl func103 rfl (by decide) rfl (fun w M => specOwn2_any w _ _ (mem_rd2 M hu)) ?_
  intro va120 vc120 us120
  refine hK93 _ _ (fun w M => (ms1 0 1 M :)) ?_
  refine gat 1 3 (fun K122 hK122 => ?_) (fun K122 hK122 => ?_)
  ·refine go_make1 rfl rfl rfl underlying24 rfl rfl (by omega) ?_
   intro B123
   refine hK122 _ _ (fun w M => (ms1 0 1 M :)) ?_
   refine gao 3 fun K126 hK126 => ?_
   refine go_make1 rfl rfl rfl underlying24 rfl rfl (by omega) ?_
   intro B125
   refine hK126 _ _ (fun w M => (ms1 0 1 M :)) ?_
   refine gav 7 rfl (qt_build rfl rfl bt_Category) ?_
   refine gao 8 fun K127 hK127 => ?_
   refine gss 0 ?_
   refine hK127 _ _ (fun w M => (ms1 0 1 M :)) ?_
   refine ga_done (by kernel_rfl) ?_
   refine gk_then (hK5 _ _ ?_)
   refine gc_ret ?_
   refine ret_S (n := 0) rfl rfl underlying27 rfl (by kernel_rfl) rfl (fun w M => ?_)
   exact ⟨_, rfl, ownC_star (c := monC r) (mem_pick (n := 4) (mem_pick (n := 4) (mem_pick (n := 2) (mem_pick (n := 2) (M) rfl) rfl) rfl) rfl).2, M.1⟩
  refine go_make1 rfl rfl rfl underlying24 rfl rfl (by omega) ?_
  intro B128
  refine hK122 _ _ (fun w M => (ms1 0 1 M :)) ?_
  refine gao 1 fun K131 hK131 => ?_
  refine go_make1 rfl rfl rfl underlying24 rfl rfl (by omega) ?_
  intro B130
  refine hK131 _ _ (fun w M => (ms1 0 1 M :)) ?_
  refine gav 7 rfl (qt_build rfl rfl bt_Category) ?_
  refine gao 8 fun K132 hK132 => ?_
  refine gss 0 ?_
  refine hK132 _ _ (fun w M => (ms1 0 1 M :)) ?_
  refine ga_done (by kernel_rfl) ?_
  refine gk_then (hK5 _ _ ?_)
  refine gc_ret ?_
  refine ret_S (n := 0) rfl rfl underlying27 rfl (by kernel_rfl) rfl (fun w M => ?_)
  exact ⟨_, rfl, ownC_star (c := monC r) (mem_pick (n := 4) (mem_pick (n := 3) (mem_pick (n := 2) (mem_pick (n := 2) (M) rfl) rfl) rfl) rfl).2, M.1⟩
 refine go_callR rfl rfl rfl func103 rfl (by decide) rfl (fun w M => specOwn2_any w _ _ (mem_rd2 M hu)) ?_
 intro va133 vc133 us133
 refine hK6 _ _ (fun w M => (ms1 0 1 M :)) ?_
 refine ga_three 1 3 4 (by kernel_rfl) rfl (.free rfl) rfl (.free rfl) rfl (.free rfl) (fun K135 hK135 => ?_) (fun K135 hK135 => ?_) (fun K135 hK135 => ?_)
 ·refine go_make1 rfl rfl rfl underlying24 rfl rfl (by omega) ?_
  intro B136
  refine hK135 _ _ (fun w M => (ms1 0 1 M :)) ?_
  refine gat 3 4 (fun K138 hK138 => ?_) (fun K138 hK138 => ?_)
  ·refine go_make1 rfl rfl rfl underlying24 rfl rfl (by omega) ?_
   intro B139
   refine hK138 _ _ (fun w M => (ms1 0 1 M :)) ?_
   refine gao 4 fun K142 hK142 => ?_
   refine go_slice1 rfl rfl rfl rfl underlying24 ?_
   intro B141
   refine hK142 _ _ (fun w M => (ms1 0 1 M :)) ?_
   refine gav 7 rfl (qt_build rfl rfl bt_Category) ?_
   refine gao 8 fun K143 hK143 => ?_
   refine gss 0 ?_
   refine hK143 _ _ (fun w M => (ms1 0 1 M :)) ?_
   refine ga_done (by kernel_rfl) ?_
   refine gk_then (hK5 _ _ ?_)
   refine gc_ret ?_
   refine ret_S (n := 0) rfl rfl underlying27 rfl (by kernel_rfl) rfl (fun w M => ?_)
   exact ⟨_, rfl, ownC_star (c := monC r) (mem_pick (n := 4) (mem_pick (n := 4) (mem_pick (n := 4) (mem_pick (n := 1) (M) rfl) rfl) rfl) rfl).2, M.1⟩
  refine go_slice1 rfl rfl rfl rfl underlying24 ?_
  intro B144
  refine hK138 _ _ (fun w M => (ms1 0 1 M :)) ?_
  refine gao 3 fun K147 hK147 => ?_
  refine go_make1 rfl rfl rfl underlying24 rfl rfl (by omega) ?_
  intro B146
  refine hK147 _ _ (fun w M => (ms1 0 1 M :)) ?_
  refine gav 7 rfl (qt_build rfl rfl bt_Category) ?_
  refine gao 8 fun K148 hK148 => ?_
  refine gss 0 ?_
  refine hK148 _ _ (fun w M => (ms1 0 1 M :)) ?_
  refine ga_done (by kernel_rfl) ?_
  refine gk_then (hK5 _ _ ?_)
  refine gc_ret ?_
  refine ret_S (n := 0) rfl rfl underlying27 rfl (by kernel_rfl) rfl (fun w M => ?_)
  exact ⟨_, rfl, ownC_star (c := monC r) (mem_pick (n := 4) (mem_pick (n := 4) (mem_pick (n := 3) (mem_pick (n := 1) (M) rfl) rfl) rfl) rfl).2, M.1⟩
 ·refine go_make1 rfl rfl rfl underlying24 rfl rfl (by omega) ?_
  intro B149
  refine hK135 _ _ (fun w M => (ms1 0 1 M :)) ?_
  refine gat 1 4 (fun K151 hK151 => ?_) (fun K151 hK151 => ?_)
  ·refine go_make1 rfl rfl rfl underlying24 rfl rfl (by omega) ?_
   intro B152
   refine hK151 _ _ (fun w M => (ms1 0 1 M :)) ?_
   refine gao 4 fun K155 hK155 => ?_
   refine go_slice1 rfl rfl rfl rfl underlying24 ?_
   intro B154
   refine hK155 _ _ (fun w M => (ms1 0 1 M :)) ?_
   refine gav 7 rfl (qt_build rfl rfl bt_Category) ?_
   refine gao 8 fun K156 hK156 => ?_
   refine gss 0 ?_
   refine hK156 _ _ (fun w M => (ms1 0 1 M :)) ?_
   refine ga_done (by kernel_rfl) ?_
   refine gk_then (hK5 _ _ ?_)
   refine gc_ret ?_
   refine ret_S (n := 0) rfl rfl underlying27 rfl (by kernel_rfl) rfl (fun w M => ?_)
   exact ⟨_, rfl, ownC_star (c := monC r) (mem_pick (n := 4) (mem_pick (n := 3) (mem_pick (n := 4) (mem_pick (n := 1) (M) rfl) rfl) rfl) rfl).2, M.1⟩
  refine go_slice1 rfl rfl rfl rfl underlying24 ?_
  intro B157
  refine hK151 _ _ (fun w M => (ms1 0 1 M :)) ?_
  refine gao 1 fun K160 hK160 => ?_
  refine go_make1 rfl rfl rfl underlying24 rfl rfl (by omega) ?_
  intro B159
  refine hK160 _ _ (fun w M => (ms1 0 1 M :)) ?_
  refine gav 7 rfl (qt_build rfl rfl bt_Category) ?_
  refine gao 8 fun K161 hK161 => ?_
  refine gss 0 ?_
  refine hK161 _ _ (fun w M => (ms1 0 1 M :)) ?_
  refine ga_done (by kernel_rfl) ?_
  refine gk_then (hK5 _ _ ?_)
  refine gc_ret ?_
  refine ret_S (n := 0) rfl rfl underlying27 rfl (by kernel_rfl) rfl (fun w M => ?_)
  exact ⟨_, rfl, ownC_star (c := monC r) (mem_pick (n := 4) (mem_pick (n := 3) (mem_pick (n := 3) (mem_pick (n := 1) (M) rfl) rfl) rfl) rfl).2, M.1⟩
 refine go_slice1 rfl rfl rfl rfl underlying24 ?_
 intro B162
 refine hK135 _ _ (fun w M => (ms1 0 1 M :)) ?_
 refine gat 1 3 (fun K164 hK164 => ?_) (fun K164 hK164 => ?_)
 ·refine go_make1 rfl rfl rfl underlying24 rfl rfl (by omega) ?_
  intro B165
  refine hK164 _ _ (fun w M => (ms1 0 1 M :)) ?_
  refine gao 3 fun K168 hK168 => ?_
  refine go_make1 rfl rfl rfl underlying24 rfl rfl (by omega) ?_
  intro B167
  refine hK168 _ _ (fun w M => (ms1 0 1 M :)) ?_
  refine gav 7 rfl (qt_build rfl rfl bt_Category) ?_
  refine gao 8 fun K169 hK169 => ?_
  refine gss 0 ?_
  refine hK169 _ _ (fun w M => (ms1 0 1 M :)) ?_
  refine ga_done (by kernel_rfl) ?_
  refine gk_then (hK5 _ _ ?_)
  refine gc_ret ?_
  refine ret_S (n := 0) rfl rfl underlying27 rfl (by kernel_rfl) rfl (fun w M => ?_)
  exact ⟨_, rfl, ownC_star (c := monC r) (mem_pick (n := 4) (mem_pick (n := 4) (mem_pick (n := 2) (mem_pick (n := 1) (M) rfl) rfl) rfl) rfl).2, M.1⟩
 refine go_make1 rfl rfl rfl underlying24 rfl rfl (by omega) ?_
 intro B170
 refine hK164 _ _ (fun w M => (ms1 0 1 M :)) ?_
 refine gao 1 fun K173 hK173 => ?_
 refine go_make1 rfl rfl rfl underlying24 rfl rfl (by omega) ?_
 intro B172
 refine hK173 _ _ (fun w M => (ms1 0 1 M :)) ?_
 refine gav 7 rfl (qt_build rfl rfl bt_Category) ?_
 refine gao 8 fun K174 hK174 => ?_
 refine gss 0 ?_
 refine hK174 _ _ (fun w M => (ms1 0 1 M :)) ?_
 refine ga_done (by kernel_rfl) ?_
 refine gk_then (hK5 _ _ ?_)
 refine gc_ret ?_
 refine ret_S (n := 0) rfl rfl underlying27 rfl (by kernel_rfl) rfl (fun w M => ?_)
 exact ⟨_, rfl, ownC_star (c := monC r) (mem_pick (n := 4) (mem_pick (n := 3) (mem_pick (n := 2) (mem_pick (n := 1) (M) rfl) rfl) rfl) rfl).2, M.1⟩
end Go.Proofs.Ytbiplocgenppoaa
namespace Go.Proofs.Ytbiplocgenppoaa
open _root_.Go.Proofs.Try
open Go.RowKit
end Go.Proofs.Ytbiplocgenppoaa
namespace Go.Proofs.Ytbiplocgenppoaa
open _root_.Go.Proofs.Try
open Go.RowKit
theorem rep_at1 {n i : Nat} (h : i < n) : at0 (List.replicate n (-1)) (i : Int) = -1 := by
 rw [at0_nat]; simp [List.getD_eq_getElem?_getD, List.getElem?_replicate, h]
def entS (c d : Cat) (j : Nat) : Ent (Int × Int) := if j < c.s.length then (at0 c.s (j : Int), at0 c.t (j : Int), ((0 : Int), (j : Int))) else (c.ob + at0 d.s ((j - c.s.length : Nat) : Int), c.ob + at0 d.t ((j - c.s.length : Nat) : Int), ((1 : Int), ((j - c.s.length : Nat) : Int)))
theorem entS_l {c d : Cat} {j : Nat} (h : j < c.s.length) : entS c d j = (at0 c.s (j : Int), at0 c.t (j : Int), ((0 : Int), (j : Int))) := if_pos h
theorem entS_r {c d : Cat} (j : Nat) : entS c d (c.s.length + j) = (c.ob + at0 d.s (j : Int), c.ob + at0 d.t (j : Int), ((1 : Int), (j : Int))) := by
 unfold entS; rw [if_neg (by omega), show c.s.length + j - c.s.length = j from by omega]
theorem entS_cases {c d : Cat} {j : Nat} (h : j < c.s.length + d.s.length) : (j < c.s.length ∧ entS c d j = (at0 c.s (j : Int), at0 c.t (j : Int), ((0 : Int), (j : Int)))) ∨ ∃ i, i < d.s.length ∧ j = c.s.length + i ∧ entS c d j = (c.ob + at0 d.s (i : Int), c.ob + at0 d.t (i : Int), ((1 : Int), (i : Int))) := by
 by_cases hj : j < c.s.length
 ·exact .inl ⟨hj, entS_l hj⟩
 refine .inr ⟨j - c.s.length, by omega, by omega, ?_⟩
 have := entS_r (c := c) (d := d) (j - c.s.length)
 rwa [show c.s.length + (j - c.s.length) = j from by omega] at this
theorem entS_inj {c d : Cat} (i j : Nat) (hi : i < c.s.length + d.s.length) (hj : j < c.s.length + d.s.length) (h : entS c d i = entS c d j) : i = j := by
 rcases entS_cases hi with ⟨_, e1⟩ | ⟨i', _, r1, e1⟩ <;> rcases entS_cases hj with ⟨_, e2⟩ | ⟨j', _, r2, e2⟩ <;> rw [e1, e2] at h <;> simp only [Prod.mk.injEq] at h <;> omega
theorem entsS_len (c d : Cat) (k : Nat) : (entsTo (entS c d) k).length = k := entsTo_len _ _
def uS (c d : Cat) (x : Nat) : Int × Int := if (x : Int) < c.ob then (0, at0 c.e (x : Int)) else (1, at0 d.e ((x : Int) - c.ob))
theorem uS_l {c d : Cat} {x : Nat} (h : (x : Int) < c.ob) : uS c d x = (0, at0 c.e (x : Int)) := if_pos h
theorem uS_r {c d : Cat} {x : Nat} (h : ¬ (x : Int) < c.ob) : uS c d x = (1, at0 d.e ((x : Int) - c.ob)) := if_neg h
def thS (c d : Cat) (f g : Int × Int) : Int × Int := (f.1, if f.1 = 0 then c.th f.2 g.2 else d.th f.2 g.2)
theorem sum_build {c d : Cat} (hS : ShapeP c) (gS : ShapeP d) : buildE (c.ob + d.ob) (entsTo (entS c d) (c.s.length + d.s.length)) (uS c d) (thS c d) = sumM c d := by
 have hn40 := hS.n40; have htl := hS.tl; have hel := hS.el; have hob0 := hS.ob0; have hob8 := hS.ob8; have hml := hS.ml
 have gn40 := gS.n40; have gtl := gS.tl; have gel := gS.el; have gob0 := gS.ob0; have gob8 := gS.ob8; have gml := gS.ml
 have hinj := entS_inj (c := c) (d := d)
 have hrl := rowsF_len c.m d.s.length c.s.length
 have hrow : ∀ i, i < c.s.length → row2 (sumM c d).m (i : Int) = row2 c.m (i : Int) ++ List.replicate d.s.length (-1) := fun i hi => by
  rw [show row2 (sumM c d).m (i : Int) = _ from growR_l (by omega) _, rowsF_row _ (by omega), if_pos hi]
 have hrow2 : ∀ i, i < d.s.length → row2 (sumM c d).m ((c.s.length + i : Nat) : Int) = smR c d i := fun i hi => by
  rw [show row2 (sumM c d).m ((c.s.length + i : Nat) : Int) = _ from growR_r (by omega) _ (by omega), hrl, hml, show c.s.length + i - c.s.length = i from by omega]
 refine buildE_to rfl (grow_len _ _ _) ((grow_len _ _ _).trans (by omega)) ((grow_len _ _ _).trans (by omega)) ((growR_len _ _ _).trans (by omega)) (fun i hi => ?_) (fun i hi => ?_) (fun i hi => ?_) (fun x hx => ?_) (fun i j hi hj => ?_)
 ·rcases entS_cases hi with ⟨hi', _⟩ | ⟨i', hi', rfl, _⟩
  ·rw [hrow i hi', List.length_append, List.length_replicate]
   have := (arrP hS (f := (i : Int)) (by omega) (by omega)).row; omega
  rw [hrow2 i' hi']; exact tabTo_len _ _
 ·rcases entS_cases hi with ⟨hi', e⟩ | ⟨i', hi', rfl, e⟩
  ·rw [e]; exact grow_l hi'
  rw [e, show at0 (sumM c d).s ((c.s.length + i' : Nat) : Int) = _ from grow_r (by omega) (by omega), show c.s.length + i' - c.s.length = i' from by omega]
  exact Int.add_comm _ _
 ·rcases entS_cases hi with ⟨hi', e⟩ | ⟨i', hi', rfl, e⟩
  ·rw [e]; exact grow_l (by omega)
  rw [e, show at0 (sumM c d).t ((c.s.length + i' : Nat) : Int) = _ from grow_r (by omega) (by omega), show c.s.length + i' - c.t.length = i' from by omega]
  exact Int.add_comm _ _
 ·by_cases h : (x : Int) < c.ob
  ·have i1 := hS.idn (x := (x : Int)) (by omega) h
   rw [uS_l h, show at0 (sumM c d).e (x : Int) = _ from grow_l (by omega)]
   refine (posE_int (fun i j hi hj he => hinj i j hi hj he) i1.1 (by omega) ?_).symm
   rw [entS_l (by omega), Int.toNat_of_nonneg i1.1, i1.2.2.1, i1.2.2.2]
  have i1 := gS.idn (x := (x : Int) - c.ob) (by omega) (by omega)
  rw [uS_r h, show at0 (sumM c d).e (x : Int) = _ from grow_r (by omega) (by omega)]
  show at0 d.e ((x - c.e.length : Nat) : Int) + c.s.length = _
  rw [show ((x - c.e.length : Nat) : Int) = (x : Int) - c.ob from by omega]
  obtain ⟨q, hq⟩ := Int.eq_ofNat_of_zero_le i1.1
  rw [hq] at i1 ⊢
  refine (posE_int (fun i j hi hj he => hinj i j hi hj he) (by omega) (by omega) ?_).symm
  rw [show ((q : Int) + c.s.length).toNat = c.s.length + q from by omega, entS_r, i1.2.2.1, i1.2.2.2]
  simp; omega
 unfold cellE
 rcases entS_cases hi with ⟨hi', e1⟩ | ⟨i', hi', rfl, e1⟩
 ·have s1 := at_lt2 hS.ta (k := i) (by omega)
  have hrl2 := (arrP hS (f := (i : Int)) (by omega) (by omega)).row
  rw [hrow i hi', e1]
  rcases entS_cases hj with ⟨hj', e2⟩ | ⟨j', hj', rfl, e2⟩
  ·rw [e2, app_l (by omega)]
   have e3 := th_none hS (f := (i : Int)) (g := (j : Int)) (by omega) (by omega) (by omega) (by omega)
   by_cases he : at0 c.t (i : Int) = at0 c.s (j : Int)
   ·have T := th_ends hS (f := (i : Int)) (g := (j : Int)) (by omega) (by omega) (by omega) (by omega) he
    rw [if_pos he]
    refine (posE_int (fun i j hi hj he => hinj i j hi hj he) T.1.1 (by have := T.1.2; omega) ?_).symm
    rw [entS_l (by have := T.1.2; omega), Int.toNat_of_nonneg T.1.1, T.2.1, T.2.2]
    rfl
   rw [if_neg he]; exact e3.2 he
  have s2 := at_lt2 gS.sa (k := j') hj'
  rw [e2, app_r (by omega), if_neg (by show ¬ at0 c.t (i : Int) = c.ob + at0 d.s (j' : Int); omega)]
  exact rep_at1 (by omega)
 have s1 := at_lt2 gS.ta (k := i') (by omega)
 rw [hrow2 i' hi', e1, show at0 (smR c d i') (j : Int) = _ from tabTo_at _ hj]
 rcases entS_cases hj with ⟨hj', e2⟩ | ⟨j', hj', rfl, e2⟩
 ·have s2 := at_lt2 hS.sa (k := j) hj'
  rw [e2, ← smX_t hj', if_neg (by show ¬ c.ob + at0 d.t (i' : Int) = at0 c.s (j : Int); omega)]
 rw [e2, ← smX_f]
 have e3 := th_none gS (f := (i' : Int)) (g := (j' : Int)) (by omega) (by omega) (by omega) (by omega)
 by_cases he : at0 d.t (i' : Int) = at0 d.s (j' : Int)
 ·have T := th_ends gS (f := (i' : Int)) (g := (j' : Int)) (by omega) (by omega) (by omega) (by omega) he
  rw [if_pos (by show c.ob + at0 d.t (i' : Int) = c.ob + at0 d.s (j' : Int); rw [he]), ← smC_t T.1.1]
  obtain ⟨q, hq⟩ := Int.eq_ofNat_of_zero_le T.1.1
  have T2 := T.2
  have hlt := T.1.2
  rw [hq] at T2 hlt
  have hq' : at0 (row2 d.m (i' : Int)) (j' : Int) = (q : Int) := hq
  rw [hq']
  refine (posE_int (fun i j hi hj he => hinj i j hi hj he) (by omega) (by omega) ?_).symm
  rw [show ((q : Int) + c.s.length).toNat = c.s.length + q from by omega, entS_r, T2.1, T2.2]
  show _ = (c.ob + at0 d.s (i' : Int), c.ob + at0 d.t (j' : Int), ((1 : Int), if (1 : Int) = 0 then _ else d.th (i' : Int) (j' : Int)))
  rw [if_neg (by decide), hq]
 have hn : at0 (row2 d.m (i' : Int)) (j' : Int) = -1 := e3.2 he
 rw [if_neg (by show ¬ c.ob + at0 d.t (i' : Int) = c.ob + at0 d.s (j' : Int); omega), ← smC_f (by omega)]; exact hn
end Go.Proofs.Ytbiplocgenppoaa
