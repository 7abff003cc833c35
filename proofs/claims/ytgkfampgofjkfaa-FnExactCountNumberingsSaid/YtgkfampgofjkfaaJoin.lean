
/- Joining pairs by labels and by leaders: the same classes. | The model's joining of pairs. -/
import Derived.Test.YtgkfampgofjkfaaIdx
import Derived.Test.YtgkfampgofjkfaaForest
set_option linter.unusedSimpArgs false
set_option linter.unusedVariables false
set_option linter.unusedSectionVars false
namespace Go.Proofs.Ytgkfampgofjkfaa
open Go.RowKit

def relab (L : List Int) (a b : Int) : List Int := L.map fun z => if z = b then a else z
def specStep (L r : List Int) : List Int := relab L (L.getD (r.getD 0 0).toNat 0) (L.getD (r.getD 1 0).toNat 0)
def implStep (R r : List Int) : List Int := mergeR R (R.getD (r.getD 0 0).toNat 0) (R.getD (r.getD 1 0).toNat 0)
def specL (n : Nat) (ps : List (List Int)) : List Int := ps.foldl specStep (upTo 0 n)
def implL (n : Nat) (ps : List (List Int)) : List Int := ps.foldl implStep (upTo 0 n)
def PairP (n : Nat) (r : List Int) : Prop := r.length = 2 ∧ AllP n r

theorem pair_range {n : Nat} {r : List Int} (h : PairP n r) : (r.getD 0 0).toNat < n ∧ (r.getD 1 0).toNat < n ∧ 0 ≤ r.getD 0 0 ∧ 0 ≤ r.getD 1 0 := by
  have h0 := h.2 _ (mem_getD (xs := r) (k := 0) (by rw [h.1]; omega))
  have h1 := h.2 _ (mem_getD (xs := r) (k := 1) (by rw [h.1]; omega))
  omega

def Ker (A B : List Int) : Prop := A.length = B.length ∧ ∀ i j, i < A.length → j < A.length → (A.getD i 0 = A.getD j 0 ↔ B.getD i 0 = B.getD j 0)

theorem getD_map {L : List Int} {f : Int → Int} {i : Nat} (hi : i < L.length) : (L.map f).getD i 0 = f (L.getD i 0) := by
  simp [List.getD_eq_getElem?_getD, List.getElem?_eq_getElem hi]

theorem ker_step {n : Nat} {L R r : List Int} (h : Ker L R) (hn : L.length = n) (hr : PairP n r) : Ker (specStep L r) (implStep R r) := by
  obtain ⟨hl, hk⟩ := h
  obtain ⟨h0, h1, _, _⟩ := pair_range hr
  unfold specStep implStep relab mergeR
  refine ⟨by simp [hl], fun i j hi hj => ?_⟩
  simp only [List.length_map] at hi hj
  rw [getD_map hi, getD_map hj, getD_map (by omega), getD_map (by omega)]
  have a1 := hk i j hi hj
  have a2 := hk i (r.getD 0 0).toNat hi (by omega)
  have a3 := hk i (r.getD 1 0).toNat hi (by omega)
  have a4 := hk j (r.getD 0 0).toNat hj (by omega)
  have a5 := hk j (r.getD 1 0).toNat hj (by omega)
  have a6 := hk (r.getD 0 0).toNat (r.getD 1 0).toNat (by omega) (by omega)
  generalize L.getD i 0 = li at *
  generalize L.getD j 0 = lj at *
  generalize R.getD i 0 = ri at *
  generalize R.getD j 0 = rj at *
  generalize L.getD (r.getD 0 0).toNat 0 = lp at *
  generalize L.getD (r.getD 1 0).toNat 0 = lq at *
  generalize R.getD (r.getD 0 0).toNat 0 = rp at *
  generalize R.getD (r.getD 1 0).toNat 0 = rq at *
  have hmx : max rp rq = rp ∧ min rp rq = rq ∨ max rp rq = rq ∧ min rp rq = rp := by omega
  rcases hmx with ⟨m1, m2⟩ | ⟨m1, m2⟩ <;> rw [m1, m2] <;> (repeat' split) <;> omega

theorem specL_len (n : Nat) (ps : List (List Int)) : (specL n ps).length = n := by
  unfold specL
  have : ∀ L : List Int, (ps.foldl specStep L).length = L.length := by
    induction ps with
    | nil => intro L; rfl
    | cons r ps ih => intro L; rw [List.foldl_cons, ih]; simp [specStep, relab]
  rw [this, upTo_length]

theorem implL_len (n : Nat) (ps : List (List Int)) : (implL n ps).length = n := by
  unfold implL
  have : ∀ L : List Int, (ps.foldl implStep L).length = L.length := by
    induction ps with
    | nil => intro L; rfl
    | cons r ps ih => intro L; rw [List.foldl_cons, ih]; simp [implStep, mergeR]
  rw [this, upTo_length]

theorem ker_fold {n : Nat} (ps : List (List Int)) (hps : ∀ r ∈ ps, PairP n r) : ∀ L R : List Int, L.length = n → Ker L R → Ker (ps.foldl specStep L) (ps.foldl implStep R) := by
  induction ps with
  | nil => intro L R _ h; exact h
  | cons r ps ih =>
    intro L R hL h
    exact ih (fun r' hr' => hps r' (List.mem_cons_of_mem _ hr')) _ _ (by simp [specStep, relab, hL]) (ker_step h hL (hps r (List.mem_cons_self ..)))

theorem ker_all {n : Nat} {ps : List (List Int)} (hps : ∀ r ∈ ps, PairP n r) : Ker (specL n ps) (implL n ps) :=
  ker_fold ps hps _ _ (upTo_length 0 n) ⟨rfl, fun _ _ _ _ => Iff.rfl⟩

/-- Which places have a label that did not stand before. -/
theorem seen_places {A B : List Int} (h : Ker A B) : ∀ k, k ≤ A.length → ∃ F : List Nat, (∀ f ∈ F, f < k) ∧ seenOf (A.take k) = F.map (fun f => A.getD f 0) ∧ seenOf (B.take k) = F.map (fun f => B.getD f 0) := by
  intro k
  induction k with
  | zero => intro _; exact ⟨[], by simp, by simp [seenOf], by simp [seenOf]⟩
  | succ k ih =>
    intro hk
    obtain ⟨F, hF, h1, h2⟩ := ih (by omega)
    have hl := h.1
    rw [take_snoc (by omega), take_snoc (xs := B) (by omega), seenOf_snoc, seenOf_snoc, h1, h2]
    have hm : (A.getD k 0 ∈ F.map (fun f => A.getD f 0)) ↔ (B.getD k 0 ∈ F.map (fun f => B.getD f 0)) := by
      simp only [List.mem_map]
      constructor
      · rintro ⟨f, hf, he⟩; exact ⟨f, hf, (h.2 f k (by have := hF f hf; omega) (by omega)).1 he⟩
      · rintro ⟨f, hf, he⟩; exact ⟨f, hf, (h.2 f k (by have := hF f hf; omega) (by omega)).2 he⟩
    by_cases hA : A.getD k 0 ∈ F.map (fun f => A.getD f 0)
    · rw [if_pos hA, if_pos (hm.1 hA)]
      exact ⟨F, fun f hf => by have := hF f hf; omega, rfl, rfl⟩
    · rw [if_neg hA, if_neg (fun hB => hA (hm.2 hB))]
      refine ⟨F ++ [k], fun f hf => ?_, by simp, by simp⟩
      rcases List.mem_append.1 hf with h | h
      · have := hF f h; omega
      · simp at h; omega

theorem findIdx_congr {F : List Nat} {p q : Nat → Bool} (h : ∀ f ∈ F, p f = q f) : F.findIdx p = F.findIdx q := by
  induction F with
  | nil => rfl
  | cons a F ih =>
    rw [List.findIdx_cons, List.findIdx_cons, h a (List.mem_cons_self ..), ih (fun f hf => h f (List.mem_cons_of_mem _ hf))]

theorem cls_ker {A B : List Int} (h : Ker A B) : clsOf A = clsOf B := by
  refine list_eq_all (by rw [clsOf_len, clsOf_len, h.1]) fun j hj => ?_
  rw [clsOf_len] at hj
  rw [clsOf_getD hj, clsOf_getD (by rw [← h.1]; exact hj)]
  obtain ⟨F, hF, h1, h2⟩ := seen_places h j (by omega)
  rw [h1, h2]
  have : (F.map (fun f => A.getD f 0)).idxOf (A.getD j 0) = (F.map (fun f => B.getD f 0)).idxOf (B.getD j 0) := by
    unfold List.idxOf
    rw [List.findIdx_map, List.findIdx_map]
    refine findIdx_congr fun f hf => ?_
    have := h.2 f j (by have := hF f hf; omega) (by omega)
    simp only [Function.comp]
    rw [Bool.eq_iff_iff, beq_iff_eq, beq_iff_eq]
    exact this
  rw [this]

theorem join_cls {n : Nat} {ps : List (List Int)} (hps : ∀ r ∈ ps, PairP n r) : clsOf (specL n ps) = clsOf (implL n ps) := cls_ker (ker_all hps)

theorem specL_snoc (n : Nat) (ps : List (List Int)) (r : List Int) : specL n (ps ++ [r]) = specStep (specL n ps) r := by simp [specL, List.foldl_append]
theorem implL_snoc (n : Nat) (ps : List (List Int)) (r : List Int) : implL n (ps ++ [r]) = implStep (implL n ps) r := by simp [implL, List.foldl_append]

end Go.Proofs.Ytgkfampgofjkfaa

namespace Go.Proofs.Ytgkfampgofjkfaa
open Go.RowKit

theorem relab_fill {L : List Int} {a b : Int} {k : Nat} (hk : k < L.length) :
    ((relab L a b).take k ++ L.drop k).set k (if L.getD k 0 = b then a else L.getD k 0) = (relab L a b).take (k + 1) ++ L.drop (k + 1) := by
  have hl : ((relab L a b).take k).length = k := by simp [relab]; omega
  rw [List.set_append, if_neg (by omega), hl, Nat.sub_self, List.drop_eq_getElem_cons hk, List.set_cons_zero, take_snoc (by simpa [relab] using hk)]
  have : (relab L a b).getD k 0 = if L.getD k 0 = b then a else L.getD k 0 := getD_map hk
  rw [this]
  simp

theorem relab_keep {L : List Int} {a b : Int} {k : Nat} (hk : k < L.length) (h : L.getD k 0 ≠ b) :
    (relab L a b).take k ++ L.drop k = (relab L a b).take (k + 1) ++ L.drop (k + 1) := by
  rw [take_snoc (by simpa [relab] using hk)]
  have : (relab L a b).getD k 0 = L.getD k 0 := by
    have h1 : (relab L a b).getD k 0 = if L.getD k 0 = b then a else L.getD k 0 := getD_map hk
    rw [h1, if_neg h]
  rw [this, List.drop_eq_getElem_cons hk]
  simp [List.getD_eq_getElem?_getD, List.getElem?_eq_getElem hk]

theorem relab_self (L : List Int) (a : Int) : relab L a a = L := by
  unfold relab
  conv => rhs; rw [← List.map_id L]
  refine List.map_congr_left fun z _ => ?_
  split <;> simp_all

theorem mixed_getD {L M : List Int} {k : Nat} (hl : M.length = L.length) (hk : k < L.length) : (M.take k ++ L.drop k).getD k 0 = L.getD k 0 := by
  have h : (M.take k).length = k := by simp; omega
  simp only [List.getD_eq_getElem?_getD]
  rw [List.getElem?_append_right (by omega), h, Nat.sub_self, List.getElem?_drop]
  simp

theorem lead_base {w : World} {base g n cap : Nat} {xs : List Int} (h : Sl w base (.slice (some ⟨g, 0, none⟩) n cap) xs) : base ≤ g := (sl_lt h).1

set_option maxHeartbeats 1600000 in
set_option maxRecDepth 100000 in
theorem specJoin_any (w : World) (n : Nat) (v : Value) (ps : List (List Int)) (hn : n ≤ 17592186044414) (h : Rd2 w v ps) (hps : ∀ r ∈ ps, PairP n r) :
    Calls Try.prog 60 #[.int .i64 n, v] w (RetL w (clsOf (specL n ps))) := by
  obtain ⟨a, cap, rfl, hl, hc⟩ := h
  have HC := Lib.hid hc; clear hc
  have HPS := Lib.hid hps; clear hps
  go_enter Try.func60, Try.ntmps60
  go_wp2
  have hbe : Below w.heap.size w (w.alloc (.cells #[] 2)) := (Below.refl _ _).alloc (Nat.le_refl _) _
  have HE := Lib.hid (sl_empty w)
  go_loopw [5, 6] (fun x i wr => ∃ k : Nat, k ≤ n ∧ i = .int .i64 k ∧ Sl wr w.heap.size x (upTo 0 k) ∧ Below w.heap.size w wr) (fun _ i _ => n - (intOf i).toNat)
  case atStart => exact ⟨0, Nat.zero_le _, rfl, by simpa [upTo] using HE.out, hbe⟩
  case round =>
    obtain ⟨k, hk, rfl, hs, hbel⟩ := hrel
    have hlen := Nat.le_of_eq (upTo_length 0 k)
    by_cases hlt : k < n
    · go_wp2_with (at_builtin; refine wp_app64 rfl _ _ _ rfl Try.underlying22 (k : Int) hs rfl rfl (by omega) hbel.size ?_; intro v1 w2 hs1 hg1)
      go_roundw
      case rel => exact ⟨k + 1, by omega, by go_num, by rw [upTo_succ]; exact hs1, below_grown hbel hs (Nat.le_refl _) hg1⟩
      case measure => simp [intOf]; omega
    · obtain rfl : k = n := by omega
      obtain ⟨a1, c1, rfl, hf⟩ := sl_form hs
      rw [upTo_length] at hf hs ⊢
      have HF := Lib.hid hf; clear hf
      have HS0 := Lib.hid hs; clear hs
      have HB0 := Lib.hid hbel; clear hbel
      obtain ⟨wo, rfl⟩ : ∃ wo : World, wo = wr := ⟨_, rfl⟩
      go_wp2
      go_loopw [7] (fun i wr => ∃ q : Nat, q ≤ ps.length ∧ i = .int .i64 q ∧ Sl wr w.heap.size (.slice a1 k c1) (specL k (ps.take q)) ∧ Below w.heap.size w wr) (fun i _ => ps.length - (intOf i).toNat)
      case atStart => exact ⟨0, Nat.zero_le _, rfl, by simpa [specL] using HS0.out, HB0.out⟩
      case round =>
        obtain ⟨q, hq, rfl, hs, hbel⟩ := hrel
        by_cases hlq : q < ps.length
        · have hrow := HPS.out (ps.getD q []) (by rw [List.getD_eq_getElem?_getD, List.getElem?_eq_getElem hlq]; exact List.getElem_mem hlq)
          have htk : ps.take (q + 1) = ps.take q ++ [ps.getD q []] := by
            rw [List.take_succ_eq_append_getElem hlq]; simp [List.getD_eq_getElem?_getD, List.getElem?_eq_getElem hlq]
          have hstep := specL_snoc k (ps.take q) (ps.getD q [])
          rw [← htk] at hstep
          obtain ⟨h0, h1, h2, h3⟩ := pair_range hrow
          have hr2 := hrow.1
          obtain ⟨pb, po, rfl, hpb, hpc⟩ := HC.out q hlq
          obtain ⟨u, hu1, hu2⟩ := hpc q hlq
          obtain ⟨ra, rc, rfl, _, hrc⟩ := hu2
          obtain ⟨rb, ro, rfl, hrb, hcell⟩ := hrc 0 (by omega)
          have d1 : wr.cell? ⟨pb, po + q, none⟩ = some (.slice (some ⟨rb, ro, none⟩) (ps.getD q []).length rc) := (hbel.cell (p := ⟨pb, po + q, none⟩) hpb).trans hu1
          have d2 : wr.cell? ⟨rb, ro, none⟩ = some (.int .i64 ((ps.getD q []).getD 0 0)) := (hbel.cell (p := ⟨rb, ro, none⟩) hrb).trans (by simpa using hcell 0 (by omega))
          have d3 : wr.cell? ⟨rb, ro + 1, none⟩ = some (.int .i64 ((ps.getD q []).getD 1 0)) := (hbel.cell (p := ⟨rb, ro + 1, none⟩) hrb).trans (hcell 1 (by omega))
          rw [hr2] at d1
          obtain ⟨x, hx⟩ := Int.eq_ofNat_of_zero_le h2
          obtain ⟨y, hy⟩ := Int.eq_ofNat_of_zero_le h3
          rw [hx] at d2 h0
          rw [hy] at d3 h1
          unfold specStep at hstep
          rw [hx, hy] at hstep
          rw [Int.toNat_natCast] at h0 h1 hstep
          rw [Int.toNat_natCast] at hstep
          have hL := specL_len k (ps.take q)
          obtain ⟨L, hLd⟩ : ∃ L, L = specL k (ps.take q) := ⟨_, rfl⟩
          rw [← hLd] at hs hstep hL
          obtain ⟨g, rfl⟩ := HF.out x h0
          have e1 := sl_cell hs (j := x) (by omega)
          have e2 := sl_cell hs (j := y) (by omega)
          obtain ⟨la, hla⟩ : ∃ z, z = L.getD x 0 := ⟨_, rfl⟩
          obtain ⟨lb, hlb⟩ : ∃ z, z = L.getD y 0 := ⟨_, rfl⟩
          rw [← hla] at e1 hstep
          rw [← hlb] at e2 hstep
          have HST := Lib.hid hstep; have HL := Lib.hid hL; have HS := Lib.hid hs
          clear hstep hL hs hx hy hr2 hcell hrc hu1 hpc htk hrow hla hlb hLd h2 h3
          have i1 : (0 : Int) ≤ (x : Int) := by omega
          have i2 : (x : Int) < (k : Int) := by omega
          have i3 : (0 : Int) ≤ (y : Int) := by omega
          have i4 : (y : Int) < (k : Int) := by omega
          have i5 : (0 : Int) ≤ (q : Int) := by omega
          have i6 : (q : Int) < (ps.length : Int) := by omega
          by_cases hab : la = lb
          · subst hab
            have hne : (la != la) = false := by simp
            go_wp2
            go_quiet (fail)
            go_wp2
            refine wp_loop_rounds 1 ?_
            rw [rounds_succ]
            go_wp2
            go_roundw
            case rel => exact ⟨q + 1, by omega, by go_num, by rw [HST.out, relab_self]; exact sl_quiet HS.out, below_quiet hbel⟩
            case measure => simp [intOf]; omega
          · have hne : (la != lb) = true := by simpa using hab
            clear hab
            have HS' : Hid (Sl (wr.drewN 0) w.heap.size (.slice (some ⟨g, 0, none⟩) k c1) L) := HS
            go_wp2
            go_quiet (fail)
            go_wp2
            have HB1 := Lib.hid (below_quiet (n := nq) hbel)
            have HS1 := Lib.hid (sl_quiet (n := nq) HS.out)
            clear hbel d1 d2 d3 e1 e2 HS HS'
            generalize wr.drewN nq = w5 at HB1 HS1 ⊢
            go_loopw [10] (fun i wi => ∃ j : Nat, j ≤ k ∧ i = .int .i64 j ∧ Sl wi w.heap.size (.slice (some ⟨g, 0, none⟩) k c1) ((relab L la lb).take j ++ L.drop j) ∧ Below w.heap.size w wi) (fun i _ => k - (intOf i).toNat)
            case atStart => exact ⟨0, Nat.zero_le _, rfl, by simpa using HS1.out, HB1.out⟩
            case round =>
              obtain ⟨j, hj, rfl, hs, hbel⟩ := hrel
              by_cases hlj : j < k
              · have hjL : j < L.length := by rw [HL.out]; exact hlj
                have hml : (relab L la lb).length = L.length := by simp [relab]
                have c1 := sl_cell hs (j := j) (by simp; omega)
                rw [mixed_getD hml hjL] at c1
                have c2 := sl_frozen hs j
                by_cases hz : L.getD j 0 = lb
                · have hset := sl_set hs j la
                  have hfl := relab_fill (a := la) (b := lb) hjL
                  rw [if_pos hz] at hfl
                  rw [hfl] at hset
                  rw [hz] at c1
                  have HSET := Lib.hid hset; clear hset hfl hz hs hml
                  have ht : (lb == lb) = true := by simp
                  go_wp2
                  go_roundw
                  case rel => exact ⟨j + 1, by omega, by go_num, HSET.out.1, hbel.setCell (lead_base HS1.out) _⟩
                  case measure => simp [intOf]; omega
                · have hkp := relab_keep (a := la) hjL hz
                  rw [hkp] at hs
                  have HSK := Lib.hid hs; clear hs hkp hml
                  obtain ⟨z, hzd⟩ : ∃ z, z = L.getD j 0 := ⟨_, rfl⟩
                  rw [← hzd] at c1 hz
                  clear hzd
                  have ht : (z == lb) = false := by simpa using hz
                  clear hz
                  go_wp2
                  go_roundw
                  case rel => exact ⟨j + 1, by omega, by go_num, HSK.out, hbel⟩
                  case measure => simp [intOf]; omega
              · obtain rfl : j = k := by omega
                have hfin : Sl wr w.heap.size (.slice (some ⟨g, 0, none⟩) j c1) (relab L la lb) := by
                  have h1 : (relab L la lb).length = j := by simp [relab, HL.out]
                  have h2 : (relab L la lb).take j = relab L la lb := List.take_of_length_le (by omega)
                  have h3 : L.drop j = [] := List.drop_of_length_le (by rw [HL.out]; omega)
                  rw [h2, h3, List.append_nil] at hs
                  exact hs
                have HFIN := Lib.hid hfin; clear hfin hs
                go_wp2
                go_roundw
                case rel => exact ⟨q + 1, by omega, by go_num, by rw [HST.out]; exact HFIN.out, hbel⟩
                case measure => simp [intOf]; omega
        · obtain rfl : q = ps.length := by omega
          rw [List.take_length] at hs
          go_wp2_with fail
          refine (specClasses_any _ _ _ hs.rd).mono ?_; rintro e w2 ⟨y, rfl, hs2, hb2⟩
          go_wp2
          go_ret
          exact ⟨_, rfl, hs2.mono hbel.size, hbel.trans (hb2.mono hbel.size)⟩

end Go.Proofs.Ytgkfampgofjkfaa
