
/- CoequalizerOf: the program and its model. -/
import Derived.Deep.RegionHeld3
import Derived.Deep.AppendLies
import Derived.StillTailTactics
import Derived.Test.YtgkfampgofjkfaaJoin
import Derived.Test.YtgkfampgofjkfaaForest
import Derived.Test.YtgkfampgofjkfaaMap
set_option linter.unusedSimpArgs false
set_option linter.unusedVariables false
set_option linter.unusedSectionVars false
namespace Go.Proofs.Ytgkfampgofjkfaa
open Go.RowKit

theorem sl_lit2 (wr : World) (x y : Int) : Sl (wr.alloc (.cells #[.int .i64 x, .int .i64 y] 2)) wr.heap.size (.slice (some ⟨wr.heap.size, 0, none⟩) 2 2) [x, y] :=
  ⟨World.ownsRow_lit wr #[.int .i64 x, .int .i64 y] 2 (Nat.le_refl _) (by decide) rfl, by simp⟩

theorem news2 (wr : World) (o : Obj) (z : Value) (t : TypeId) : ∀ j u, [z][j]? = some u → ((wr.alloc o).alloc (.cells #[z] t)).drew.cell? ((⟨wr.heap.size + 1, 0, none⟩ : Addr).add j) = some u := by
  have h := cell_one_new (wr.alloc o) z t
  simp only [World.size_alloc] at h
  exact h

def prs (f g : List Int) (k : Nat) : List (List Int) := (List.range k).map fun (j : Nat) => [f.getD j 0, g.getD j 0]
theorem prs_len (f g : List Int) (k : Nat) : (prs f g k).length = k := by simp [prs]
theorem prs_snoc (f g : List Int) (k : Nat) : prs f g (k + 1) = prs f g k ++ [[f.getD k 0, g.getD k 0]] := by simp [prs, List.range_succ]

theorem prs_pairs {f g : List Int} {n : Int} (hf : AllP n f) (hg : AllP n g) (hl : f.length = g.length) : ∀ r ∈ prs f g f.length, PairP n.toNat r := fun r hr => by
  simp only [prs, List.mem_map, List.mem_range] at hr
  obtain ⟨j, hj, rfl⟩ := hr
  refine ⟨rfl, fun x hx => ?_⟩
  have h1 := hf _ (mem_getD hj)
  have h2 := hg _ (mem_getD (xs := g) (k := j) (by omega))
  simp only [List.mem_cons, List.not_mem_nil, or_false] at hx
  rcases hx with rfl | rfl <;> omega

def fCoequalizerOf (n : Int) (f g : List Int) : List Int × Int :=
  if codeTwo n f g = 0 then (clsOf (implL n.toNat (prs f g f.length)), 0) else ([], codeTwo n f g)

theorem codeTwo_maps {n : Int} {f g : List Int} (h : codeTwo n f g = 0) : MapP n f ∧ MapP n g ∧ f.length = g.length := by
  unfold codeTwo at h
  split at h
  · rename_i h0
    split at h
    · rename_i hh
      refine ⟨?_, hh.1, hh.2⟩
      unfold codeM at h0
      split at h0
      · split at h0
        · assumption
        · cases h0
      · cases h0
    · cases h
  · rename_i hh; exact absurd h hh

theorem map_nat {n : Nat} {f : List Int} {k : Nat} (h : AllP n f) (hk : k < f.length) : ∃ p : Nat, f.getD k 0 = p ∧ p < n := by
  have := h _ (mem_getD hk)
  obtain ⟨p, hp⟩ := Int.eq_ofNat_of_zero_le this.1
  exact ⟨p, hp, by omega⟩

end Go.Proofs.Ytgkfampgofjkfaa
