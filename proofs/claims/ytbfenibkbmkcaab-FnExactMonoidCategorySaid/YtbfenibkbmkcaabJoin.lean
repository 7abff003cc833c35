
/- Joining pairs by labels and by leaders: the same classes. | The model's joining of pairs. -/
import Derived.Test.YtbfenibkbmkcaabIdx
import Derived.Test.YtbfenibkbmkcaabForest
set_option linter.unusedSimpArgs false
set_option linter.unusedVariables false
set_option linter.unusedSectionVars false
namespace Go.Proofs.Ytbfenibkbmkcaab
open Go.RowKit

def relab (L : List Int) (a b : Int) : List Int := L.map fun z => if z = b then a else z
def specStep (L r : List Int) : List Int := relab L (L.getD (r.getD 0 0).toNat 0) (L.getD (r.getD 1 0).toNat 0)
def implStep (R r : List Int) : List Int := mergeR R (R.getD (r.getD 0 0).toNat 0) (R.getD (r.getD 1 0).toNat 0)
def specL (n : Nat) (ps : List (List Int)) : List Int := ps.foldl specStep (upTo 0 n)
def implL (n : Nat) (ps : List (List Int)) : List Int := ps.foldl implStep (upTo 0 n)
def PairP (n : Nat) (r : List Int) : Prop := r.length = 2 ∧ AllP n r

theorem pair_range {n : Nat} {r : List Int} (h : PairP n r) : (r.getD 0 0).toNat < n ∧ (r.getD 1 0).toNat < n ∧ 0 ≤ r.getD 0 0 ∧ 0 ≤ r.getD 1 0 := by
  have h0 := h.2 _ (mem_getD (xs := r) (k := 0) (by rw [h.1]; omega))
  have h1 := h.2 _ (mem_getD (xs := r) (k := 1) (by rw [h.1]; omega))
  omega

def Ker (A B : List Int) : Prop := A.length = B.length ∧ ∀ i j, i < A.length → j < A.length → (A.getD i 0 = A.getD j 0 ↔ B.getD i 0 = B.getD j 0)

theorem getD_map {L : List Int} {f : Int → Int} {i : Nat} (hi : i < L.length) : (L.map f).getD i 0 = f (L.getD i 0) := by
  simp [List.getD_eq_getElem?_getD, List.getElem?_eq_getElem hi]

theorem ker_step {n : Nat} {L R r : List Int} (h : Ker L R) (hn : L.length = n) (hr : PairP n r) : Ker (specStep L r) (implStep R r) := by
  obtain ⟨hl, hk⟩ := h
  obtain ⟨h0, h1, _, _⟩ := pair_range hr
  unfold specStep implStep relab mergeR
  refine ⟨by simp [hl], fun i j hi hj => ?_⟩
  simp only [List.length_map] at hi hj
  rw [getD_map hi, getD_map hj, getD_map (by omega), getD_map (by omega)]
  have a1 := hk i j hi hj
  have a2 := hk i (r.getD 0 0).toNat hi (by omega)
  have a3 := hk i (r.getD 1 0).toNat hi (by omega)
  have a4 := hk j (r.getD 0 0).toNat hj (by omega)
  have a5 := hk j (r.getD 1 0).toNat hj (by omega)
  have a6 := hk (r.getD 0 0).toNat (r.getD 1 0).toNat (by omega) (by omega)
  generalize L.getD i 0 = li at *
  generalize L.getD j 0 = lj at *
  generalize R.getD i 0 = ri at *
  generalize R.getD j 0 = rj at *
  generalize L.getD (r.getD 0 0).toNat 0 = lp at *
  generalize L.getD (r.getD 1 0).toNat 0 = lq at *
  generalize R.getD (r.getD 0 0).toNat 0 = rp at *
  generalize R.getD (r.getD 1 0).toNat 0 = rq at *
  have hmx : max rp rq = rp ∧ min rp rq = rq ∨ max rp rq = rq ∧ min rp rq = rp := by omega
  rcases hmx with ⟨m1, m2⟩ | ⟨m1, m2⟩ <;> rw [m1, m2] <;> (repeat' split) <;> omega

theorem specL_len (n : Nat) (ps : List (List Int)) : (specL n ps).length = n := by
  unfold specL
  have : ∀ L : List Int, (ps.foldl specStep L).length = L.length := by
    induction ps with
    | nil => intro L; rfl
    | cons r ps ih => intro L; rw [List.foldl_cons, ih]; simp [specStep, relab]
  rw [this, upTo_length]

theorem implL_len (n : Nat) (ps : List (List Int)) : (implL n ps).length = n := by
  unfold implL
  have : ∀ L : List Int, (ps.foldl implStep L).length = L.length := by
    induction ps with
    | nil => intro L; rfl
    | cons r ps ih => intro L; rw [List.foldl_cons, ih]; simp [implStep, mergeR]
  rw [this, upTo_length]

theorem ker_fold {n : Nat} (ps : List (List Int)) (hps : ∀ r ∈ ps, PairP n r) : ∀ L R : List Int, L.length = n → Ker L R → Ker (ps.foldl specStep L) (ps.foldl implStep R) := by
  induction ps with
  | nil => intro L R _ h; exact h
  | cons r ps ih =>
    intro L R hL h
    exact ih (fun r' hr' => hps r' (List.mem_cons_of_mem _ hr')) _ _ (by simp [specStep, relab, hL]) (ker_step h hL (hps r (List.mem_cons_self ..)))

theorem ker_all {n : Nat} {ps : List (List Int)} (hps : ∀ r ∈ ps, PairP n r) : Ker (specL n ps) (implL n ps) :=
  ker_fold ps hps _ _ (upTo_length 0 n) ⟨rfl, fun _ _ _ _ => Iff.rfl⟩

/-- Which places have a label that did not stand before. -/
theorem seen_places {A B : List Int} (h : Ker A B) : ∀ k, k ≤ A.length → ∃ F : List Nat, (∀ f ∈ F, f < k) ∧ seenOf (A.take k) = F.map (fun f => A.getD f 0) ∧ seenOf (B.take k) = F.map (fun f => B.getD f 0) := by
  intro k
  induction k with
  | zero => intro _; exact ⟨[], by simp, by simp [seenOf], by simp [seenOf]⟩
  | succ k ih =>
    intro hk
    obtain ⟨F, hF, h1, h2⟩ := ih (by omega)
    have hl := h.1
    rw [take_snoc (by omega), take_snoc (xs := B) (by omega), seenOf_snoc, seenOf_snoc, h1, h2]
    have hm : (A.getD k 0 ∈ F.map (fun f => A.getD f 0)) ↔ (B.getD k 0 ∈ F.map (fun f => B.getD f 0)) := by
      simp only [List.mem_map]
      constructor
      · rintro ⟨f, hf, he⟩; exact ⟨f, hf, (h.2 f k (by have := hF f hf; omega) (by omega)).1 he⟩
      · rintro ⟨f, hf, he⟩; exact ⟨f, hf, (h.2 f k (by have := hF f hf; omega) (by omega)).2 he⟩
    by_cases hA : A.getD k 0 ∈ F.map (fun f => A.getD f 0)
    · rw [if_pos hA, if_pos (hm.1 hA)]
      exact ⟨F, fun f hf => by have := hF f hf; omega, rfl, rfl⟩
    · rw [if_neg hA, if_neg (fun hB => hA (hm.2 hB))]
      refine ⟨F ++ [k], fun f hf => ?_, by simp, by simp⟩
      rcases List.mem_append.1 hf with h | h
      · have := hF f h; omega
      · simp at h; omega

theorem findIdx_congr {F : List Nat} {p q : Nat → Bool} (h : ∀ f ∈ F, p f = q f) : F.findIdx p = F.findIdx q := by
  induction F with
  | nil => rfl
  | cons a F ih =>
    rw [List.findIdx_cons, List.findIdx_cons, h a (List.mem_cons_self ..), ih (fun f hf => h f (List.mem_cons_of_mem _ hf))]

theorem cls_ker {A B : List Int} (h : Ker A B) : clsOf A = clsOf B := by
  refine list_eq_all (by rw [clsOf_len, clsOf_len, h.1]) fun j hj => ?_
  rw [clsOf_len] at hj
  rw [clsOf_getD hj, clsOf_getD (by rw [← h.1]; exact hj)]
  obtain ⟨F, hF, h1, h2⟩ := seen_places h j (by omega)
  rw [h1, h2]
  have : (F.map (fun f => A.getD f 0)).idxOf (A.getD j 0) = (F.map (fun f => B.getD f 0)).idxOf (B.getD j 0) := by
    unfold List.idxOf
    rw [List.findIdx_map, List.findIdx_map]
    refine findIdx_congr fun f hf => ?_
    have := h.2 f j (by have := hF f hf; omega) (by omega)
    simp only [Function.comp]
    rw [Bool.eq_iff_iff, beq_iff_eq, beq_iff_eq]
    exact this
  rw [this]

theorem join_cls {n : Nat} {ps : List (List Int)} (hps : ∀ r ∈ ps, PairP n r) : clsOf (specL n ps) = clsOf (implL n ps) := cls_ker (ker_all hps)

theorem specL_snoc (n : Nat) (ps : List (List Int)) (r : List Int) : specL n (ps ++ [r]) = specStep (specL n ps) r := by simp [specL, List.foldl_append]
theorem implL_snoc (n : Nat) (ps : List (List Int)) (r : List Int) : implL n (ps ++ [r]) = implStep (implL n ps) r := by simp [implL, List.foldl_append]

end Go.Proofs.Ytbfenibkbmkcaab

namespace Go.Proofs.Ytbfenibkbmkcaab
open Go.RowKit

theorem relab_fill {L : List Int} {a b : Int} {k : Nat} (hk : k < L.length) :
    ((relab L a b).take k ++ L.drop k).set k (if L.getD k 0 = b then a else L.getD k 0) = (relab L a b).take (k + 1) ++ L.drop (k + 1) := by
  have hl : ((relab L a b).take k).length = k := by simp [relab]; omega
  rw [List.set_append, if_neg (by omega), hl, Nat.sub_self, List.drop_eq_getElem_cons hk, List.set_cons_zero, take_snoc (by simpa [relab] using hk)]
  have : (relab L a b).getD k 0 = if L.getD k 0 = b then a else L.getD k 0 := getD_map hk
  rw [this]
  simp

theorem relab_keep {L : List Int} {a b : Int} {k : Nat} (hk : k < L.length) (h : L.getD k 0 ≠ b) :
    (relab L a b).take k ++ L.drop k = (relab L a b).take (k + 1) ++ L.drop (k + 1) := by
  rw [take_snoc (by simpa [relab] using hk)]
  have : (relab L a b).getD k 0 = L.getD k 0 := by
    have h1 : (relab L a b).getD k 0 = if L.getD k 0 = b then a else L.getD k 0 := getD_map hk
    rw [h1, if_neg h]
  rw [this, List.drop_eq_getElem_cons hk]
  simp [List.getD_eq_getElem?_getD, List.getElem?_eq_getElem hk]

theorem relab_self (L : List Int) (a : Int) : relab L a a = L := by
  unfold relab
  conv => rhs; rw [← List.map_id L]
  refine List.map_congr_left fun z _ => ?_
  split <;> simp_all

theorem mixed_getD {L M : List Int} {k : Nat} (hl : M.length = L.length) (hk : k < L.length) : (M.take k ++ L.drop k).getD k 0 = L.getD k 0 := by
  have h : (M.take k).length = k := by simp; omega
  simp only [List.getD_eq_getElem?_getD]
  rw [List.getElem?_append_right (by omega), h, Nat.sub_self, List.getElem?_drop]
  simp

theorem lead_base {w : World} {base g n cap : Nat} {xs : List Int} (h : Sl w base (.slice (some ⟨g, 0, none⟩) n cap) xs) : base ≤ g := (sl_lt h).1

end Go.Proofs.Ytbfenibkbmkcaab
