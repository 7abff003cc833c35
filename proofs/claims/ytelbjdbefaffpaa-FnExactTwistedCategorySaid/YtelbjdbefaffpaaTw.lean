
/- Twisted arrows: the list of them, and what it has. -/
import Derived.Test.YtelbjdbefaffpaaEnts
import Derived.Test.YtelbjdbefaffpaaHomL
import Derived.Test.YtelbjdbefaffpaaTab
import Derived.Test.YtelbjdbefaffpaaSq
set_option linter.unusedSimpArgs false
set_option linter.unusedVariables false
set_option linter.unusedSectionVars false
namespace Go.Proofs.Ytelbjdbefaffpaa
open Go.RowKit


section
variable {β : Type}
/-- u before f before v is g. -/
def okTw (c : Cat) (f g : Nat) (u v : Int) : Prop := c.th (c.th u (f : Int)) v = (g : Int)
noncomputable def tw4 (em : Int → Int → Int → Int → β) (c : Cat) (f g : Nat) (u : Int) (V : List Int) (acc : List β) : Nat → List β
  | 0 => acc
  | k + 1 => if bP (okTw c f g u (at0 V (k : Int))) = true then tw4 em c f g u V acc k ++ [em (f : Int) (g : Int) u (at0 V (k : Int))] else tw4 em c f g u V acc k
noncomputable def tw3 (em : Int → Int → Int → Int → β) (c : Cat) (f g : Nat) (U V : List Int) (acc : List β) : Nat → List β
  | 0 => acc
  | k + 1 => tw4 em c f g (at0 U (k : Int)) V (tw3 em c f g U V acc k) V.length
def twU (c : Cat) (f g : Nat) : List Int := homTo c (at0 c.s (g : Int)) (at0 c.s (f : Int)) c.s.length
def twV (c : Cat) (f g : Nat) : List Int := homTo c (at0 c.t (f : Int)) (at0 c.t (g : Int)) c.s.length
noncomputable def tw2 (em : Int → Int → Int → Int → β) (c : Cat) (f : Nat) (acc : List β) : Nat → List β
  | 0 => acc
  | g + 1 => tw3 em c f g (twU c f g) (twV c f g) (tw2 em c f acc g) (twU c f g).length
noncomputable def tw1 (em : Int → Int → Int → Int → β) (c : Cat) : Nat → List β
  | 0 => []
  | f + 1 => tw2 em c f (tw1 em c f) c.s.length
theorem tw4_t {em : Int → Int → Int → Int → β} {c : Cat} {f g : Nat} {u : Int} {V : List Int} {acc : List β} {k : Nat} (h : c.th (c.th u (f : Int)) (at0 V (k : Int)) = (g : Int)) : tw4 em c f g u V acc k ++ [em (f : Int) (g : Int) u (at0 V (k : Int))] = tw4 em c f g u V acc (k + 1) := by rw [tw4, if_pos (bP_t (p := okTw c f g u (at0 V (k : Int))) h)]
theorem tw4_f {em : Int → Int → Int → Int → β} {c : Cat} {f g : Nat} {u : Int} {V : List Int} {acc : List β} {k : Nat} (h : ¬ c.th (c.th u (f : Int)) (at0 V (k : Int)) = (g : Int)) : tw4 em c f g u V acc k = tw4 em c f g u V acc (k + 1) := by rw [tw4, if_neg (by rw [bP_f (p := okTw c f g u (at0 V (k : Int))) h]; decide)]
theorem tw4_len (em : Int → Int → Int → Int → β) (c : Cat) (f g : Nat) (u : Int) (V : List Int) (acc : List β) : ∀ k, (tw4 em c f g u V acc k).length ≤ acc.length + k
  | 0 => Nat.le_refl _
  | k + 1 => by
    have ih := tw4_len em c f g u V acc k
    rw [tw4]; split
    · rw [List.length_append, List.length_singleton]; omega
    · omega
theorem twU_len (c : Cat) (f g : Nat) : (twU c f g).length ≤ c.s.length := homTo_len _ _ _ _
theorem twV_len (c : Cat) (f g : Nat) : (twV c f g).length ≤ c.s.length := homTo_len _ _ _ _
theorem tw3_len {c : Cat} (hn : c.s.length ≤ 40) (em : Int → Int → Int → Int → β) (f g : Nat) (U : List Int) (acc : List β) : ∀ k, (tw3 em c f g U (twV c f g) acc k).length ≤ acc.length + 40 * k
  | 0 => Nat.le_refl _
  | k + 1 => by
    have ih := tw3_len hn em f g U acc k
    have h1 := tw4_len em c f g (at0 U (k : Int)) (twV c f g) (tw3 em c f g U (twV c f g) acc k) (twV c f g).length
    have h2 := twV_len c f g
    rw [tw3]; omega
theorem tw2_len {c : Cat} (hn : c.s.length ≤ 40) (em : Int → Int → Int → Int → β) (f : Nat) (acc : List β) : ∀ g, (tw2 em c f acc g).length ≤ acc.length + 1600 * g
  | 0 => Nat.le_refl _
  | g + 1 => by
    have ih := tw2_len hn em f acc g
    have h1 := tw3_len hn em f g (twU c f g) (tw2 em c f acc g) (twU c f g).length
    have h2 := twU_len c f g
    rw [tw2]; omega
theorem tw1_len {c : Cat} (hn : c.s.length ≤ 40) (em : Int → Int → Int → Int → β) : ∀ f, (tw1 em c f).length ≤ 64000 * f
  | 0 => Nat.le_refl _
  | f + 1 => by
    have ih := tw1_len hn em f
    have h1 := tw2_len hn em f (tw1 em c f) c.s.length
    rw [tw1]; omega
/-- The same as lists of lists. -/
noncomputable def fl4 (em : Int → Int → Int → Int → β) (c : Cat) (f g : Nat) (u : Int) (V : List Int) : List β := (V.filter fun v => bP (okTw c f g u v)).map (em (f : Int) (g : Int) u)
noncomputable def fl3 (em : Int → Int → Int → Int → β) (c : Cat) (f g : Nat) : List β := (twU c f g).flatMap fun u => fl4 em c f g u (twV c f g)
noncomputable def fl2 (em : Int → Int → Int → Int → β) (c : Cat) (f : Nat) : List β := (List.range c.s.length).flatMap fun g => fl3 em c f g
theorem take_at {L : List Int} {k : Nat} (h : k < L.length) : L.take (k + 1) = L.take k ++ [at0 L (k : Int)] := by
  rw [List.take_succ_eq_append_getElem h, at0_nat, List.getD_eq_getElem?_getD, List.getElem?_eq_getElem h]; rfl
theorem tw4_fl (em : Int → Int → Int → Int → β) (c : Cat) (f g : Nat) (u : Int) (V : List Int) (acc : List β) : ∀ k, k ≤ V.length → tw4 em c f g u V acc k = acc ++ fl4 em c f g u (V.take k)
  | 0, _ => by simp [tw4, fl4]
  | k + 1, h => by
    have ih := tw4_fl em c f g u V acc k (by omega)
    rw [take_at (by omega)]
    by_cases hb : c.th (c.th u (f : Int)) (at0 V (k : Int)) = (g : Int)
    · rw [← tw4_t hb, ih]; simp [fl4, bP_t (p := okTw c f g u (at0 V (k : Int))) hb]
    · rw [← tw4_f hb, ih]; simp [fl4, bP_f (p := okTw c f g u (at0 V (k : Int))) hb]
theorem tw3_fl (em : Int → Int → Int → Int → β) (c : Cat) (f g : Nat) (U V : List Int) (acc : List β) : ∀ k, k ≤ U.length → tw3 em c f g U V acc k = acc ++ (U.take k).flatMap fun u => fl4 em c f g u V
  | 0, _ => by simp [tw3]
  | k + 1, h => by
    rw [tw3, tw4_fl _ _ _ _ _ _ _ _ (Nat.le_refl _), List.take_length, tw3_fl em c f g U V acc k (by omega), take_at (by omega)]; simp
theorem tw2_fl (em : Int → Int → Int → Int → β) (c : Cat) (f : Nat) (acc : List β) : ∀ k, tw2 em c f acc k = acc ++ (List.range k).flatMap fun g => fl3 em c f g
  | 0 => by simp [tw2]
  | k + 1 => by rw [tw2, tw3_fl _ _ _ _ _ _ _ _ (Nat.le_refl _), List.take_length, tw2_fl em c f acc k, List.range_succ]; simp [fl3]
theorem tw1_fl (em : Int → Int → Int → Int → β) (c : Cat) : ∀ k, tw1 em c k = (List.range k).flatMap fun f => fl2 em c f
  | 0 => by simp [tw1]
  | k + 1 => by rw [tw1, tw2_fl, tw1_fl em c k, List.range_succ]; simp [fl2]
theorem tw1_map {γ : Type} (φ : β → γ) (em : Int → Int → Int → Int → β) (c : Cat) (k : Nat) : tw1 (fun f g u v => φ (em f g u v)) c k = (tw1 em c k).map φ := by
  rw [tw1_fl, tw1_fl]
  simp only [fl2, fl3, fl4, List.map_flatMap, List.map_map]
  rfl
end
def emE (f g u v : Int) : Ent (Int × Int) := (f, g, (u, v))
def rowTw (e : Ent (Int × Int)) : List Int := [e.1, e.2.1, e.2.2.1, e.2.2.2]
def emR (f g u v : Int) : List Int := [f, g, u, v]
/-- The twisted arrows, as entries and as rows. -/
noncomputable def twE (c : Cat) : List (Ent (Int × Int)) := tw1 emE c c.s.length
noncomputable def twR (c : Cat) : List (List Int) := tw1 emR c c.s.length
theorem twR_eq (c : Cat) : twR c = (twE c).map rowTw := tw1_map rowTw emE c _
def TwP (c : Cat) (e : Ent (Int × Int)) : Prop := ∃ f g : Nat, f < c.s.length ∧ g < c.s.length ∧ e.1 = (f : Int) ∧ e.2.1 = (g : Int) ∧ e.2.2.1 ∈ twU c f g ∧ e.2.2.2 ∈ twV c f g ∧ okTw c f g e.2.2.1 e.2.2.2
theorem twE_mem {c : Cat} {e : Ent (Int × Int)} : e ∈ twE c ↔ TwP c e := by
  unfold twE
  rw [tw1_fl]
  simp only [fl2, fl3, fl4, List.mem_flatMap, List.mem_map, List.mem_filter, List.mem_range]
  constructor
  · rintro ⟨f, hf, g, hg, u, hu, v, ⟨hv, hb⟩, rfl⟩
    exact ⟨f, g, hf, hg, rfl, rfl, hu, hv, bP_iff.1 hb⟩
  · rintro ⟨f, g, hf, hg, h1, h2, hu, hv, hb⟩
    refine ⟨f, hf, g, hg, e.2.2.1, hu, e.2.2.2, ⟨hv, bP_t hb⟩, ?_⟩
    obtain ⟨a, b, x, y⟩ := e
    simp only at h1 h2
    rw [h1, h2]; rfl
theorem homTo_nodup (c : Cat) (x y : Int) (k : Nat) : (homTo c x y k).Nodup := by
  unfold homTo
  refine List.Pairwise.map _ ?_ (List.Pairwise.filter _ (List.nodup_range (n := k)))
  intro a b h e; exact h (by omega)
theorem twE_nodup (c : Cat) : (twE c).Nodup := by
  unfold twE
  rw [tw1_fl]
  unfold List.Nodup
  rw [List.pairwise_flatMap]
  refine ⟨fun f _ => ?_, List.Pairwise.imp ?_ (List.nodup_range (n := c.s.length))⟩
  · unfold fl2
    rw [List.pairwise_flatMap]
    refine ⟨fun g _ => ?_, List.Pairwise.imp ?_ (List.nodup_range (n := c.s.length))⟩
    · unfold fl3
      rw [List.pairwise_flatMap]
      refine ⟨fun u _ => ?_, List.Pairwise.imp ?_ (homTo_nodup _ _ _ _)⟩
      · unfold fl4
        refine List.Pairwise.map _ ?_ (List.Pairwise.filter _ (homTo_nodup _ _ _ _))
        intro a b h e
        simp only [emE, Prod.mk.injEq] at e; exact h e.2.2.2
      · intro a b h x hx y hy e
        simp only [fl4, List.mem_map] at hx hy
        obtain ⟨_, _, rfl⟩ := hx
        obtain ⟨_, _, rfl⟩ := hy
        simp only [emE, Prod.mk.injEq] at e; exact h e.2.2.1
    · intro a b h x hx y hy e
      simp only [fl3, fl4, List.mem_flatMap, List.mem_map] at hx hy
      obtain ⟨_, _, _, _, rfl⟩ := hx
      obtain ⟨_, _, _, _, rfl⟩ := hy
      simp only [emE, Prod.mk.injEq] at e; exact h (by omega)
  · intro a b h x hx y hy e
    simp only [fl2, fl3, fl4, List.mem_flatMap, List.mem_map] at hx hy
    obtain ⟨_, _, _, _, _, _, rfl⟩ := hx
    obtain ⟨_, _, _, _, _, _, rfl⟩ := hy
    simp only [emE, Prod.mk.injEq] at e; exact h (by omega)

end Go.Proofs.Ytelbjdbefaffpaa
