
/- Irreducible arrows: both sides. -/
import Derived.Test.YtgkfampgofjkfaaHomL
import Derived.Test.YtgkfampgofjkfaaRul7
set_option linter.unusedSimpArgs false
set_option linter.unusedVariables false
set_option linter.unusedSectionVars false
namespace Go.Proofs.Ytgkfampgofjkfaa
open Go.RowKit


def unitA (c : Cat) (f : Int) : Prop := at0 c.e (at0 c.s f) = f
def facA (c : Cat) (g h : Int) : Prop := at0 c.t g = at0 c.s h ∧ ¬ unitA c g ∧ ¬ unitA c h
def PA (c : Cat) (k l j : Nat) : Prop := ∃ g h : Nat, (g < k ∨ g = k ∧ h < l) ∧ h < c.s.length ∧ facA c g h ∧ c.th g h = (j : Int)
noncomputable def bitsA (c : Cat) (k l : Nat) : List Bool := (List.range c.s.length).map fun j => bP (PA c k l j)
theorem bitsA_len (c : Cat) (k l : Nat) : (bitsA c k l).length = c.s.length := by simp [bitsA]
theorem bitsA_congr {c : Cat} {k l k' l' : Nat} (h : ∀ j, PA c k l j ↔ PA c k' l' j) : bitsA c k l = bitsA c k' l' := by
  unfold bitsA; exact List.map_congr_left fun j _ => bP_congr (h j)
theorem bitsA_zero (c : Cat) : List.replicate c.s.length false = bitsA c 0 0 := by
  refine List.ext_getElem (by simp [bitsA]) fun j h1 h2 => ?_
  simp only [bitsA, List.getElem_replicate, List.getElem_map, List.getElem_range]
  exact (bP_f (by rintro ⟨g, h, (hk | hk), _⟩ <;> omega)).symm
theorem bitsA_row (c : Cat) (k : Nat) : bitsA c k c.s.length = bitsA c (k + 1) 0 := bitsA_congr fun j => by
  constructor
  · rintro ⟨g, h, h1, h2, h3⟩; exact ⟨g, h, by omega, h2, h3⟩
  · rintro ⟨g, h, h1, h2, h3⟩; exact ⟨g, h, by omega, h2, h3⟩
theorem bitsA_f {c : Cat} {k l : Nat} (hf : ¬ facA c k l) : bitsA c k l = bitsA c k (l + 1) := bitsA_congr fun j => by
  constructor
  · rintro ⟨g, h, h1, h2, h3⟩; exact ⟨g, h, by omega, h2, h3⟩
  · rintro ⟨g, h, h1, h2, h3, h4⟩
    by_cases he : g = k ∧ h = l
    · obtain ⟨rfl, rfl⟩ := he; exact absurd h3 hf
    · exact ⟨g, h, by omega, h2, h3, h4⟩
theorem bitsA_t {c : Cat} {k l : Nat} (hl : l < c.s.length) (hf : facA c k l) (h0 : 0 ≤ c.th k l) : (bitsA c k l).set (c.th k l).toNat true = bitsA c k (l + 1) := by
  refine List.ext_getElem (by simp [bitsA]) fun j h1 h2 => ?_
  simp only [bitsA, List.getElem_set, List.getElem_map, List.getElem_range]
  split
  · exact (bP_t ⟨k, l, by omega, hl, hf, by omega⟩).symm
  · next hne =>
    refine bP_congr ⟨?_, ?_⟩
    · rintro ⟨g, h, h1, h2, h3⟩; exact ⟨g, h, by omega, h2, h3⟩
    · rintro ⟨g, h, h1, h2, h3, h4⟩
      by_cases he : g = k ∧ h = l
      · obtain ⟨rfl, rfl⟩ := he; omega
      · exact ⟨g, h, by omega, h2, h3, h4⟩
theorem bitsA_at {c : Cat} {j : Nat} (hj : j < c.s.length) (k l : Nat) : atB (bitsA c k l) (j : Int) = bP (PA c k l j) := by
  simp [atB, bitsA, List.getD_eq_getElem?_getD, List.getElem?_eq_getElem, hj]
def irrA (c : Cat) (f : Nat) : Prop := ¬ PA c c.s.length 0 f ∧ ¬ unitA c f
noncomputable def irrL (c : Cat) (k : Nat) : List Int := ((List.range k).filter fun f => bP (irrA c f)).map fun (f : Nat) => (f : Int)
theorem irrL_len (c : Cat) (k : Nat) : (irrL c k).length ≤ k := by
  simp only [irrL, List.length_map]; exact Nat.le_trans (List.length_filter_le _ _) (by simp)
theorem irrL_t {c : Cat} {k : Nat} (h : irrA c k) : irrL c k ++ [(k : Int)] = irrL c (k + 1) := by
  simp [irrL, List.range_succ, bP_t h]
theorem irrL_f {c : Cat} {k : Nat} (h : ¬ irrA c k) : irrL c k = irrL c (k + 1) := by
  simp [irrL, List.range_succ, bP_f h]
def redA (c : Cat) (f : Int) : Prop := ∃ g h : Nat, g < c.s.length ∧ h < c.s.length ∧ c.th g h = f ∧ ¬ unitA c g ∧ ¬ unitA c h
theorem redA_iff {c : Cat} (hS : ShapeP c) {f : Nat} : redA c f ↔ PA c c.s.length 0 f := by
  constructor
  · rintro ⟨g, h, hg, hh, he, u1, u2⟩
    refine ⟨g, h, .inl hg, hh, ⟨?_, u1, u2⟩, he⟩
    refine Classical.not_not.1 fun hn => ?_
    have := (th_none hS (f := g) (g := h) (by omega) (by omega) (by omega) (by omega)).2 hn
    omega
  · rintro ⟨g, h, hk, hh, ⟨_, u1, u2⟩, he⟩
    exact ⟨g, h, by omega, hh, he, u1, u2⟩
noncomputable def fIrreducibleArrows (c : Cat) : List Int × Int := if fIsCategory c = true then (irrL c c.s.length, 0) else ([], 1)
theorem irr_f {c : Cat} (h : fIsCategory c = false) : fIrreducibleArrows c = ([], 1) := if_neg (by rw [h]; decide)
theorem irr_t {c : Cat} (h : fIsCategory c = true) : fIrreducibleArrows c = (irrL c c.s.length, 0) := if_pos h
def noRed (c : Cat) (f : Int) (k l : Nat) : Prop := ∀ g h : Nat, (g < k ∨ g = k ∧ h < l) → h < c.s.length → ¬ (c.th g h = f ∧ ¬ unitA c g ∧ ¬ unitA c h)
theorem noRed_row {c : Cat} {f : Int} {k : Nat} (h : noRed c f k c.s.length) : noRed c f (k + 1) 0 := fun g x h1 h2 => h g x (by omega) h2
theorem noRed_next {c : Cat} {f : Int} {k l : Nat} (h : noRed c f k l) (hn : ¬ (c.th k l = f ∧ ¬ unitA c k ∧ ¬ unitA c l)) : noRed c f k (l + 1) := fun g x h1 h2 => by
  by_cases he : g = k ∧ x = l
  · obtain ⟨rfl, rfl⟩ := he; exact hn
  · exact h g x (by omega) h2
theorem noRed_end {c : Cat} {f : Int} (h : noRed c f c.s.length 0) : ¬ redA c f := by
  rintro ⟨g, x, hg, hx, he⟩
  exact h g x (.inl hg) hx he

set_option maxHeartbeats 1000000 in
set_option maxRecDepth 100000 in
theorem isIdentity_any (w : World) (v : Value) (c : Cat) (f : Int) (h : RdC w v c) (hS : ShapeP c) (f0 : 0 ≤ f) (f1 : f < c.s.length) :
    Calls Try.prog 100 #[v, .int .i64 f] w (RetB w (decide (at0 c.e (at0 c.s f) = f))) := by
  have h0 := h
  obtain ⟨va, vb, vc, vd, ve, vf, vg, vh, rfl, h1, h2, h3, h4, _⟩ := h.lists
  have hf := arrP hS f0 f1
  have e1 := hf.fs; have e2 := hf.ft; have e3 := hf.fm; have e4 := hf.s0; have e5 := hf.s1; have e6 := hf.t0; have e7 := hf.t1; have e8 := hf.row
  have hn40 := hS.n40; have htl := hS.tl; have hel := hS.el
  go_enter Try.func100, Try.ntmps100
  refine gc_enter (N := 16) rfl (look_cons (k := 0) rfl (look_cons (k := 1) rfl (look_nil _))) ?_
  refine gc_seq fun K1 hK1 => ?_
  refine gc_region ?_
  refine g_op (.free rfl) fun K3 hK3 => ?_
  refine go_box rfl rfl rfl rfl rfl ?_
  intro B2
  refine hK3 _ _ ?_
  refine g_v (.free rfl) rfl rfl (qt_assign rfl rfl) ?_
  refine g_nil ?_
  refine gk_then (hK1 _ _ ?_)
  refine gc_seq fun K4 hK4 => ?_
  refine gc_draw (by kernel_rfl) ?_
  refine gd_v (.free rfl) rfl rfl (qt_field (z := 0) (off := 3) rfl rfl Try.underlying27 rfl (by kernel_rfl) rfl) ?_
  refine gd_v (.free rfl) rfl rfl (qt_loadB (n := 0) rfl rfl Try.underlying22 rfl rfl rfl) ?_
  refine gd_v (.free rfl) rfl rfl (qt_field (z := 0) (off := 1) rfl rfl Try.underlying27 rfl (by kernel_rfl) rfl) ?_
  refine gd_v (.free rfl) rfl rfl (qt_loadB (n := 0) rfl rfl Try.underlying22 rfl rfl rfl) ?_
  refine gd_v (.free rfl) rfl rfl (qt_move rfl rfl) ?_
  refine gd_v (.free rfl) rfl rfl (qt_index rfl rfl rfl ulE1 szE1 (fun w M => lenA_rd h1) (by omega) (by omega)) ?_
  refine gd_v (.free rfl) rfl rfl (qt_load1 rfl rfl Try.underlying2 rfl (fun w M => mem_rd M h1) (by omega) (by omega)) ?_
  refine gd_v (.free rfl) rfl rfl (qt_index rfl rfl rfl ulE1 szE1 (fun w M => lenA_rd h3) (by omega) (by omega)) ?_
  refine gd_v (.free rfl) rfl rfl (qt_load1 rfl rfl Try.underlying2 rfl (fun w M => mem_rd M h3) (by omega) (by omega)) ?_
  refine gd_v (.free rfl) rfl rfl (qt_move rfl rfl) ?_
  refine gd_v (.free rfl) rfl rfl (qt_eql rfl rfl rfl) ?_
  refine gd_v (.free rfl) rfl rfl (qt_assign rfl rfl) ?_
  refine gd_nil ?_
  refine gk_then (hK4 _ _ ?_)
  refine gc_ret ?_
  refine ret_1 rfl rfl  (fun w M => ?_)
  exact ⟨rfl, M.1⟩

end Go.Proofs.Ytgkfampgofjkfaa
