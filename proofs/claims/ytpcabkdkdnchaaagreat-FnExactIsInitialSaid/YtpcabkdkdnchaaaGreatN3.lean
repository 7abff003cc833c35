import Derived.Test.YtpcabkdkdnchaaaGreatN1
import Derived.Test.YtpcabkdkdnchaaaGreatN2
import Derived.Deep.RegionHeld3
import Derived.Deep.AppendLies
import Derived.StillTailTactics
import Derived.Lib.SmallJoins
import Derived.RangeFuncLeaves
import Derived.RangeFuncSeq
import Derived.OrdersIn
import Derived.TacticsIn
set_option linter.unusedSimpArgs false
set_option linter.unusedVariables false
set_option linter.unusedSectionVars false
namespace Go.Proofs.YtpcabkdkdnchaaaGreat
open Go.RowKit
def relab (L : List Int) (a b : Int) : List Int := L.map fun z => if z = b then a else z
def specStep (L r : List Int) : List Int := relab L (L.getD (r.getD 0 0).toNat 0) (L.getD (r.getD 1 0).toNat 0)
def implStep (R r : List Int) : List Int := mergeR R (R.getD (r.getD 0 0).toNat 0) (R.getD (r.getD 1 0).toNat 0)
def specL (n : Nat) (ps : List (List Int)) : List Int := ps.foldl specStep (upTo 0 n)
def implL (n : Nat) (ps : List (List Int)) : List Int := ps.foldl implStep (upTo 0 n)
def PairP (n : Nat) (r : List Int) : Prop := r.length = 2 ∧ AllP n r
theorem pair_range {n : Nat} {r : List Int} (h : PairP n r) : (r.getD 0 0).toNat < n ∧ (r.getD 1 0).toNat < n ∧ 0 ≤ r.getD 0 0 ∧ 0 ≤ r.getD 1 0 := by
  have h0 := h.2 _ (mem_getD (xs := r) (k := 0) (by rw [h.1]; omega))
  have h1 := h.2 _ (mem_getD (xs := r) (k := 1) (by rw [h.1]; omega))
  omega
def Ker (A B : List Int) : Prop := A.length = B.length ∧ ∀ i j, i < A.length → j < A.length → (A.getD i 0 = A.getD j 0 ↔ B.getD i 0 = B.getD j 0)
theorem getD_map {L : List Int} {f : Int → Int} {i : Nat} (hi : i < L.length) : (L.map f).getD i 0 = f (L.getD i 0) := by
  simp [List.getD_eq_getElem?_getD, List.getElem?_eq_getElem hi]
theorem ker_step {n : Nat} {L R r : List Int} (h : Ker L R) (hn : L.length = n) (hr : PairP n r) : Ker (specStep L r) (implStep R r) := by
  obtain ⟨hl, hk⟩ := h
  obtain ⟨h0, h1, _, _⟩ := pair_range hr
  unfold specStep implStep relab mergeR
  refine ⟨by simp [hl], fun i j hi hj => ?_⟩
  simp only [List.length_map] at hi hj
  rw [getD_map hi, getD_map hj, getD_map (by omega), getD_map (by omega)]
  have a1 := hk i j hi hj
  have a2 := hk i (r.getD 0 0).toNat hi (by omega)
  have a3 := hk i (r.getD 1 0).toNat hi (by omega)
  have a4 := hk j (r.getD 0 0).toNat hj (by omega)
  have a5 := hk j (r.getD 1 0).toNat hj (by omega)
  have a6 := hk (r.getD 0 0).toNat (r.getD 1 0).toNat (by omega) (by omega)
  generalize L.getD i 0 = li at *
  generalize L.getD j 0 = lj at *
  generalize R.getD i 0 = ri at *
  generalize R.getD j 0 = rj at *
  generalize L.getD (r.getD 0 0).toNat 0 = lp at *
  generalize L.getD (r.getD 1 0).toNat 0 = lq at *
  generalize R.getD (r.getD 0 0).toNat 0 = rp at *
  generalize R.getD (r.getD 1 0).toNat 0 = rq at *
  have hmx : max rp rq = rp ∧ min rp rq = rq ∨ max rp rq = rq ∧ min rp rq = rp := by omega
  rcases hmx with ⟨m1, m2⟩ | ⟨m1, m2⟩ <;> rw [m1, m2] <;> (repeat' split) <;> omega
theorem specL_len (n : Nat) (ps : List (List Int)) : (specL n ps).length = n := by
  unfold specL
  have : ∀ L : List Int, (ps.foldl specStep L).length = L.length := by
    induction ps with
    | nil => intro L; rfl
    | cons r ps ih => intro L; rw [List.foldl_cons, ih]; simp [specStep, relab]
  rw [this, upTo_length]
theorem implL_len (n : Nat) (ps : List (List Int)) : (implL n ps).length = n := by
  unfold implL
  have : ∀ L : List Int, (ps.foldl implStep L).length = L.length := by
    induction ps with
    | nil => intro L; rfl
    | cons r ps ih => intro L; rw [List.foldl_cons, ih]; simp [implStep, mergeR]
  rw [this, upTo_length]
theorem ker_fold {n : Nat} (ps : List (List Int)) (hps : ∀ r ∈ ps, PairP n r) : ∀ L R : List Int, L.length = n → Ker L R → Ker (ps.foldl specStep L) (ps.foldl implStep R) := by
  induction ps with
  | nil => intro L R _ h; exact h
  | cons r ps ih =>
    intro L R hL h
    exact ih (fun r' hr' => hps r' (List.mem_cons_of_mem _ hr')) _ _ (by simp [specStep, relab, hL]) (ker_step h hL (hps r (List.mem_cons_self ..)))
theorem ker_all {n : Nat} {ps : List (List Int)} (hps : ∀ r ∈ ps, PairP n r) : Ker (specL n ps) (implL n ps) :=
  ker_fold ps hps _ _ (upTo_length 0 n) ⟨rfl, fun _ _ _ _ => Iff.rfl⟩
theorem seen_places {A B : List Int} (h : Ker A B) : ∀ k, k ≤ A.length → ∃ F : List Nat, (∀ f ∈ F, f < k) ∧ seenOf (A.take k) = F.map (fun f => A.getD f 0) ∧ seenOf (B.take k) = F.map (fun f => B.getD f 0) := by
  intro k
  induction k with
  | zero => intro _; exact ⟨[], by simp, by simp [seenOf], by simp [seenOf]⟩
  | succ k ih =>
    intro hk
    obtain ⟨F, hF, h1, h2⟩ := ih (by omega)
    have hl := h.1
    rw [take_snoc (by omega), take_snoc (xs := B) (by omega), seenOf_snoc, seenOf_snoc, h1, h2]
    have hm : (A.getD k 0 ∈ F.map (fun f => A.getD f 0)) ↔ (B.getD k 0 ∈ F.map (fun f => B.getD f 0)) := by
      simp only [List.mem_map]
      constructor
      · rintro ⟨f, hf, he⟩; exact ⟨f, hf, (h.2 f k (by have := hF f hf; omega) (by omega)).1 he⟩
      · rintro ⟨f, hf, he⟩; exact ⟨f, hf, (h.2 f k (by have := hF f hf; omega) (by omega)).2 he⟩
    by_cases hA : A.getD k 0 ∈ F.map (fun f => A.getD f 0)
    · rw [if_pos hA, if_pos (hm.1 hA)]
      exact ⟨F, fun f hf => by have := hF f hf; omega, rfl, rfl⟩
    · rw [if_neg hA, if_neg (fun hB => hA (hm.2 hB))]
      refine ⟨F ++ [k], fun f hf => ?_, by simp, by simp⟩
      rcases List.mem_append.1 hf with h | h
      · have := hF f h; omega
      · simp at h; omega
theorem findIdx_congr {F : List Nat} {p q : Nat → Bool} (h : ∀ f ∈ F, p f = q f) : F.findIdx p = F.findIdx q := by
  induction F with
  | nil => rfl
  | cons a F ih =>
    rw [List.findIdx_cons, List.findIdx_cons, h a (List.mem_cons_self ..), ih (fun f hf => h f (List.mem_cons_of_mem _ hf))]
theorem cls_ker {A B : List Int} (h : Ker A B) : clsOf A = clsOf B := by
  refine list_eq_all (by rw [clsOf_len, clsOf_len, h.1]) fun j hj => ?_
  rw [clsOf_len] at hj
  rw [clsOf_getD hj, clsOf_getD (by rw [← h.1]; exact hj)]
  obtain ⟨F, hF, h1, h2⟩ := seen_places h j (by omega)
  rw [h1, h2]
  have : (F.map (fun f => A.getD f 0)).idxOf (A.getD j 0) = (F.map (fun f => B.getD f 0)).idxOf (B.getD j 0) := by
    unfold List.idxOf
    rw [List.findIdx_map, List.findIdx_map]
    refine findIdx_congr fun f hf => ?_
    have := h.2 f j (by have := hF f hf; omega) (by omega)
    simp only [Function.comp]
    rw [Bool.eq_iff_iff, beq_iff_eq, beq_iff_eq]
    exact this
  rw [this]
theorem join_cls {n : Nat} {ps : List (List Int)} (hps : ∀ r ∈ ps, PairP n r) : clsOf (specL n ps) = clsOf (implL n ps) := cls_ker (ker_all hps)
theorem specL_snoc (n : Nat) (ps : List (List Int)) (r : List Int) : specL n (ps ++ [r]) = specStep (specL n ps) r := by simp [specL, List.foldl_append]
theorem implL_snoc (n : Nat) (ps : List (List Int)) (r : List Int) : implL n (ps ++ [r]) = implStep (implL n ps) r := by simp [implL, List.foldl_append]
end Go.Proofs.YtpcabkdkdnchaaaGreat
namespace Go.Proofs.YtpcabkdkdnchaaaGreat
open Go.RowKit
theorem relab_fill {L : List Int} {a b : Int} {k : Nat} (hk : k < L.length) :
    ((relab L a b).take k ++ L.drop k).set k (if L.getD k 0 = b then a else L.getD k 0) = (relab L a b).take (k + 1) ++ L.drop (k + 1) := by
  have hl : ((relab L a b).take k).length = k := by simp [relab]; omega
  rw [List.set_append, if_neg (by omega), hl, Nat.sub_self, List.drop_eq_getElem_cons hk, List.set_cons_zero, take_snoc (by simpa [relab] using hk)]
  have : (relab L a b).getD k 0 = if L.getD k 0 = b then a else L.getD k 0 := getD_map hk
  rw [this]
  simp
theorem relab_keep {L : List Int} {a b : Int} {k : Nat} (hk : k < L.length) (h : L.getD k 0 ≠ b) :
    (relab L a b).take k ++ L.drop k = (relab L a b).take (k + 1) ++ L.drop (k + 1) := by
  rw [take_snoc (by simpa [relab] using hk)]
  have : (relab L a b).getD k 0 = L.getD k 0 := by
    have h1 : (relab L a b).getD k 0 = if L.getD k 0 = b then a else L.getD k 0 := getD_map hk
    rw [h1, if_neg h]
  rw [this, List.drop_eq_getElem_cons hk]
  simp [List.getD_eq_getElem?_getD, List.getElem?_eq_getElem hk]
theorem relab_self (L : List Int) (a : Int) : relab L a a = L := by
  unfold relab
  conv => rhs; rw [← List.map_id L]
  refine List.map_congr_left fun z _ => ?_
  split <;> simp_all
theorem mixed_getD {L M : List Int} {k : Nat} (hl : M.length = L.length) (hk : k < L.length) : (M.take k ++ L.drop k).getD k 0 = L.getD k 0 := by
  have h : (M.take k).length = k := by simp; omega
  simp only [List.getD_eq_getElem?_getD]
  rw [List.getElem?_append_right (by omega), h, Nat.sub_self, List.getElem?_drop]
  simp
theorem lead_base {w : World} {base g n cap : Nat} {xs : List Int} (h : Sl w base (.slice (some ⟨g, 0, none⟩) n cap) xs) : base ≤ g := (sl_lt h).1
set_option maxHeartbeats 1600000 in
set_option maxRecDepth 100000 in
theorem specJoin_any (w : World) (n : Nat) (v : Value) (ps : List (List Int)) (hn : n ≤ 17592186044414) (h : Rd2 w v ps) (hps : ∀ r ∈ ps, PairP n r) :
    Calls Tryz.prog 103 #[.int .i64 n, v] w (RetL w (clsOf (specL n ps))) := by
  obtain ⟨a, cap, rfl, hl, hc⟩ := h
  have HC := Lib.hid hc; clear hc
  have HPS := Lib.hid hps; clear hps
  go_enter Tryz.func103, Tryz.ntmps103
  go_wp2
  have hbe : Below w.heap.size w (w.alloc (.cells #[] 2)) := (Below.refl _ _).alloc (Nat.le_refl _) _
  have HE := Lib.hid (sl_empty w)
  go_loopw [5, 6] (fun x i wr => ∃ k : Nat, k ≤ n ∧ i = .int .i64 k ∧ Sl wr w.heap.size x (upTo 0 k) ∧ Below w.heap.size w wr) (fun _ i _ => n - (intOf i).toNat)
  case atStart => exact ⟨0, Nat.zero_le _, rfl, by simpa [upTo] using HE.out, hbe⟩
  case round =>
    obtain ⟨k, hk, rfl, hs, hbel⟩ := hrel
    have hlen := Nat.le_of_eq (upTo_length 0 k)
    by_cases hlt : k < n
    · go_wp2_with (at_builtin; refine wp_app64 rfl _ _ _ rfl Tryz.underlying22 (k : Int) hs rfl rfl (by omega) hbel.size ?_; intro v1 w2 hs1 hg1)
      go_roundw
      case rel => exact ⟨k + 1, by omega, by go_num, by rw [upTo_succ]; exact hs1, below_grown hbel hs (Nat.le_refl _) hg1⟩
      case measure => simp [intOf]; omega
    · obtain rfl : k = n := by omega
      obtain ⟨a1, c1, rfl, hf⟩ := sl_form hs
      rw [upTo_length] at hf hs ⊢
      have HF := Lib.hid hf; clear hf
      have HS0 := Lib.hid hs; clear hs
      have HB0 := Lib.hid hbel; clear hbel
      obtain ⟨wo, rfl⟩ : ∃ wo : World, wo = wr := ⟨_, rfl⟩
      go_wp2
      go_loopw [7] (fun i wr => ∃ q : Nat, q ≤ ps.length ∧ i = .int .i64 q ∧ Sl wr w.heap.size (.slice a1 k c1) (specL k (ps.take q)) ∧ Below w.heap.size w wr) (fun i _ => ps.length - (intOf i).toNat)
      case atStart => exact ⟨0, Nat.zero_le _, rfl, by simpa [specL] using HS0.out, HB0.out⟩
      case round =>
        obtain ⟨q, hq, rfl, hs, hbel⟩ := hrel
        by_cases hlq : q < ps.length
        · have hrow := HPS.out (ps.getD q []) (by rw [List.getD_eq_getElem?_getD, List.getElem?_eq_getElem hlq]; exact List.getElem_mem hlq)
          have htk : ps.take (q + 1) = ps.take q ++ [ps.getD q []] := by
            rw [List.take_succ_eq_append_getElem hlq]; simp [List.getD_eq_getElem?_getD, List.getElem?_eq_getElem hlq]
          have hstep := specL_snoc k (ps.take q) (ps.getD q [])
          rw [← htk] at hstep
          obtain ⟨h0, h1, h2, h3⟩ := pair_range hrow
          have hr2 := hrow.1
          obtain ⟨pb, po, rfl, hpb, hpc⟩ := HC.out q hlq
          obtain ⟨u, hu1, hu2⟩ := hpc q hlq
          obtain ⟨ra, rc, rfl, _, hrc⟩ := hu2
          obtain ⟨rb, ro, rfl, hrb, hcell⟩ := hrc 0 (by omega)
          have d1 : wr.cell? ⟨pb, po + q, none⟩ = some (.slice (some ⟨rb, ro, none⟩) (ps.getD q []).length rc) := (hbel.cell (p := ⟨pb, po + q, none⟩) hpb).trans hu1
          have d2 : wr.cell? ⟨rb, ro, none⟩ = some (.int .i64 ((ps.getD q []).getD 0 0)) := (hbel.cell (p := ⟨rb, ro, none⟩) hrb).trans (by simpa using hcell 0 (by omega))
          have d3 : wr.cell? ⟨rb, ro + 1, none⟩ = some (.int .i64 ((ps.getD q []).getD 1 0)) := (hbel.cell (p := ⟨rb, ro + 1, none⟩) hrb).trans (hcell 1 (by omega))
          rw [hr2] at d1
          obtain ⟨x, hx⟩ := Int.eq_ofNat_of_zero_le h2
          obtain ⟨y, hy⟩ := Int.eq_ofNat_of_zero_le h3
          rw [hx] at d2 h0
          rw [hy] at d3 h1
          unfold specStep at hstep
          rw [hx, hy] at hstep
          rw [Int.toNat_natCast] at h0 h1 hstep
          rw [Int.toNat_natCast] at hstep
          have hL := specL_len k (ps.take q)
          obtain ⟨L, hLd⟩ : ∃ L, L = specL k (ps.take q) := ⟨_, rfl⟩
          rw [← hLd] at hs hstep hL
          obtain ⟨g, rfl⟩ := HF.out x h0
          have e1 := sl_cell hs (j := x) (by omega)
          have e2 := sl_cell hs (j := y) (by omega)
          obtain ⟨la, hla⟩ : ∃ z, z = L.getD x 0 := ⟨_, rfl⟩
          obtain ⟨lb, hlb⟩ : ∃ z, z = L.getD y 0 := ⟨_, rfl⟩
          rw [← hla] at e1 hstep
          rw [← hlb] at e2 hstep
          have HST := Lib.hid hstep; have HL := Lib.hid hL; have HS := Lib.hid hs
          clear hstep hL hs hx hy hr2 hcell hrc hu1 hpc htk hrow hla hlb hLd h2 h3
          have i1 : (0 : Int) ≤ (x : Int) := by omega
          have i2 : (x : Int) < (k : Int) := by omega
          have i3 : (0 : Int) ≤ (y : Int) := by omega
          have i4 : (y : Int) < (k : Int) := by omega
          have i5 : (0 : Int) ≤ (q : Int) := by omega
          have i6 : (q : Int) < (ps.length : Int) := by omega
          by_cases hab : la = lb
          · subst hab
            have hne : (la != la) = false := by simp
            go_wp2
            go_quiet (fail)
            go_wp2
            refine wp_loop_rounds 1 ?_
            rw [rounds_succ]
            go_wp2
            go_roundw
            case rel => exact ⟨q + 1, by omega, by go_num, by rw [HST.out, relab_self]; exact sl_quiet HS.out, below_quiet hbel⟩
            case measure => simp [intOf]; omega
          · have hne : (la != lb) = true := by simpa using hab
            clear hab
            have HS' : Hid (Sl (wr.drewN 0) w.heap.size (.slice (some ⟨g, 0, none⟩) k c1) L) := HS
            go_wp2
            go_quiet (fail)
            go_wp2
            have HB1 := Lib.hid (below_quiet (n := nq) hbel)
            have HS1 := Lib.hid (sl_quiet (n := nq) HS.out)
            clear hbel d1 d2 d3 e1 e2 HS HS'
            generalize wr.drewN nq = w5 at HB1 HS1 ⊢
            go_loopw [10] (fun i wi => ∃ j : Nat, j ≤ k ∧ i = .int .i64 j ∧ Sl wi w.heap.size (.slice (some ⟨g, 0, none⟩) k c1) ((relab L la lb).take j ++ L.drop j) ∧ Below w.heap.size w wi) (fun i _ => k - (intOf i).toNat)
            case atStart => exact ⟨0, Nat.zero_le _, rfl, by simpa using HS1.out, HB1.out⟩
            case round =>
              obtain ⟨j, hj, rfl, hs, hbel⟩ := hrel
              by_cases hlj : j < k
              · have hjL : j < L.length := by rw [HL.out]; exact hlj
                have hml : (relab L la lb).length = L.length := by simp [relab]
                have c1 := sl_cell hs (j := j) (by simp; omega)
                rw [mixed_getD hml hjL] at c1
                have c2 := sl_frozen hs j
                by_cases hz : L.getD j 0 = lb
                · have hset := sl_set hs j la
                  have hfl := relab_fill (a := la) (b := lb) hjL
                  rw [if_pos hz] at hfl
                  rw [hfl] at hset
                  rw [hz] at c1
                  have HSET := Lib.hid hset; clear hset hfl hz hs hml
                  have ht : (lb == lb) = true := by simp
                  go_wp2
                  go_roundw
                  case rel => exact ⟨j + 1, by omega, by go_num, HSET.out.1, hbel.setCell (lead_base HS1.out) _⟩
                  case measure => simp [intOf]; omega
                · have hkp := relab_keep (a := la) hjL hz
                  rw [hkp] at hs
                  have HSK := Lib.hid hs; clear hs hkp hml
                  obtain ⟨z, hzd⟩ : ∃ z, z = L.getD j 0 := ⟨_, rfl⟩
                  rw [← hzd] at c1 hz
                  clear hzd
                  have ht : (z == lb) = false := by simpa using hz
                  clear hz
                  go_wp2
                  go_roundw
                  case rel => exact ⟨j + 1, by omega, by go_num, HSK.out, hbel⟩
                  case measure => simp [intOf]; omega
              · obtain rfl : j = k := by omega
                have hfin : Sl wr w.heap.size (.slice (some ⟨g, 0, none⟩) j c1) (relab L la lb) := by
                  have h1 : (relab L la lb).length = j := by simp [relab, HL.out]
                  have h2 : (relab L la lb).take j = relab L la lb := List.take_of_length_le (by omega)
                  have h3 : L.drop j = [] := List.drop_of_length_le (by rw [HL.out]; omega)
                  rw [h2, h3, List.append_nil] at hs
                  exact hs
                have HFIN := Lib.hid hfin; clear hfin hs
                go_wp2
                go_roundw
                case rel => exact ⟨q + 1, by omega, by go_num, by rw [HST.out]; exact HFIN.out, hbel⟩
                case measure => simp [intOf]; omega
        · obtain rfl : q = ps.length := by omega
          rw [List.take_length] at hs
          go_wp2_with fail
          refine (specClasses_any _ _ _ hs.rd).mono ?_; rintro e w2 ⟨y, rfl, hs2, hb2⟩
          go_wp2
          go_ret
          exact ⟨_, rfl, hs2.mono hbel.size, hbel.trans (hb2.mono hbel.size)⟩
end Go.Proofs.YtpcabkdkdnchaaaGreat
set_option linter.unusedSimpArgs false
set_option linter.unusedVariables false
set_option linter.unusedSectionVars false
namespace Go.Proofs.YtpcabkdkdnchaaaGreat
open Go.RowKit
end Go.Proofs.YtpcabkdkdnchaaaGreat
set_option linter.unusedSimpArgs false
set_option linter.unusedVariables false
set_option linter.unusedSectionVars false
namespace Go.Proofs.YtpcabkdkdnchaaaGreat
open Go.RowKit
open Go.ChangeShapes Go.WideShapes Go.ChangeAt
def In2 (w : World) (v : Value) (rows : List (List Int)) : Prop :=
  ∃ (a : Option Addr) (cap : Nat), v = .slice a rows.length cap ∧ rows.length ≤ maxLen ∧
    ∀ j, j < rows.length → ∃ b off, a = some ⟨b, off, none⟩ ∧ b < w.heap.size ∧ ∀ i, i < rows.length → ∃ u, w.cell? ⟨b, off + i, none⟩ = some u ∧ In w u (rows.getD i [])
theorem In2.rd {w : World} {v : Value} {rows : List (List Int)} (h : In2 w v rows) (hl : rows.length + offR rows rows.length ≤ 1048576) : Rd2 w v rows := by
  obtain ⟨a, cap, hv, _, hc⟩ := h
  refine ⟨a, cap, hv, by omega, fun j hj => ?_⟩
  obtain ⟨b, off, ha, hb, hcell⟩ := hc j hj
  refine ⟨b, off, ha, hb, fun i hi => ?_⟩
  obtain ⟨u, h1, h2⟩ := hcell i hi
  refine ⟨u, h1, h2.rd ?_⟩
  have hm := offR_mono rows (i + 1) rows.length (by omega)
  simp only [offR] at hm
  omega
theorem in_below {w w' : World} {v : Value} {xs : List Int} (hb : Below w.heap.size w w') (h : In w v xs) : In w' v xs := by
  obtain ⟨a, cap, hv, hl, hw, hc⟩ := h
  refine ⟨a, cap, hv, hl, hw, fun j hj => ?_⟩
  obtain ⟨b, off, ha, hbs, hcell⟩ := hc j hj
  exact ⟨b, off, ha, Nat.lt_of_lt_of_le hbs hb.size, fun i hi => (hb.cell (p := ⟨b, off + i, none⟩) hbs).trans (hcell i hi)⟩
theorem sz_any (w : World) (v : Value) (xs : List Int) (left : Int) (h : In w v xs) (h0 : 0 ≤ left) (h1 : left ≤ 1048576) :
    Calls Tryz.prog 37 #[v, .int .i64 left] w (Same w (.int .i64 (if (xs.length : Int) ≤ left then left - xs.length else -1))) := by
  obtain ⟨a, cap, rfl, hm, _⟩ := h
  unfold maxLen at hm
  by_cases hc : (xs.length : Int) ≤ left
  · rw [if_pos hc]
    go_enter Tryz.func37, Tryz.ntmps37
    go_wp2
    go_ret
    exact ⟨rfl, rfl⟩
  · rw [if_neg hc]
    have hlt : left < (xs.length : Int) := by omega
    clear hc
    go_enter Tryz.func37, Tryz.ntmps37
    go_wp2
    go_ret
    exact ⟨rfl, rfl⟩
set_option maxHeartbeats 800000 in
set_option maxRecDepth 100000 in
theorem sz2_any (w : World) (v : Value) (rows : List (List Int)) (left : Int) (h : In2 w v rows) (h0 : 0 ≤ left) (h1 : left ≤ 1048576) :
    Calls Tryz.prog 52 #[v, .int .i64 left] w (fun e w' => e = .returned (.int .i64 (if ((rows.length + offR rows rows.length : Nat) : Int) ≤ left then left - ((rows.length + offR rows rows.length : Nat) : Int) else -1)) ∧ Below w.heap.size w w') := by
  obtain ⟨a, cap, rfl, hm, hc⟩ := h
  unfold maxLen at hm
  have HC := Lib.hid hc; clear hc
  have HMONO := Lib.hid (offR_mono rows)
  by_cases hlen : (rows.length : Int) ≤ left
  · obtain ⟨res, hres⟩ : ∃ res, res = (if ((rows.length + offR rows rows.length : Nat) : Int) ≤ left then left - ((rows.length + offR rows rows.length : Nat) : Int) else -1) := ⟨_, rfl⟩
    rw [← hres]
    have HRES := Lib.hid hres; clear hres
    go_enter Tryz.func52, Tryz.ntmps52
    go_wp2
    go_loopw [1, 5] (fun c i wr => ∃ k : Nat, k ≤ rows.length ∧ i = .int .i64 k ∧ c = .int .i64 (left - rows.length - (offR rows k : Int)) ∧ (offR rows k : Int) ≤ left - rows.length ∧ Below w.heap.size w wr) (fun _ i _ => rows.length - (intOf i).toNat)
    case atStart => exact ⟨0, Nat.zero_le _, rfl, by simp [offR], by simp [offR]; omega, Below.refl _ _⟩
    case round =>
      obtain ⟨k, hk, rfl, rfl, hle, hbel⟩ := hrel
      by_cases hlt : k < rows.length
      · obtain ⟨b, off, rfl, hb, hcell⟩ := HC.out k hlt
        obtain ⟨u, hu1, hu2⟩ := hcell k hlt
        have c1 : wr.cell? ⟨b, off + k, none⟩ = some u := (hbel.cell (p := ⟨b, off + k, none⟩) hb).trans hu1
        have hin := in_below hbel hu2
        have hoff : offR rows (k + 1) = offR rows k + (rows.getD k []).length := rfl
        have hmm := HMONO.out (k + 1) rows.length (by omega)
        obtain ⟨r, hr⟩ : ∃ r, r = rows.getD k [] := ⟨_, rfl⟩
        rw [← hr] at hin hoff
        obtain ⟨n, hn⟩ : ∃ n, n = offR rows k := ⟨_, rfl⟩
        rw [← hn] at hoff hle
        rw [← hn]
        have hrl : (r.length : Int) ≤ 9223372036854775807 := by
          obtain ⟨_, _, _, h3, _⟩ := hin
          unfold maxLen at h3; omega
        by_cases hfit : (r.length : Int) ≤ left - rows.length - n
        · skip
          have HOFF := Lib.hid hoff; clear hoff hr hn hmm hcell hu1 hu2
          go_wp2_with fail
          refine (sz_any _ _ r (left - rows.length - (n : Int)) hin (by omega) (by omega)).mono ?_; rw [if_pos (by omega)]; rintro e w1 ⟨rfl, rfl⟩
          go_wp2
          go_roundw
          case rel => exact ⟨k + 1, by omega, by go_num, by rw [HOFF.out]; go_num, by rw [HOFF.out]; omega, hbel⟩
          case measure => simp [intOf]; omega
        · have hrr : res = -1 := by rw [HRES.out, if_neg (by omega)]
          subst hrr
          have hfit2 : left - rows.length - (n : Int) < (r.length : Int) := by omega
          clear hoff hr hn hmm hcell hu1 hu2 hfit
          go_wp2_with fail
          refine (sz_any _ _ r (left - rows.length - (n : Int)) hin (by omega) (by omega)).mono ?_; rw [if_neg (by omega)]; rintro e w1 ⟨rfl, rfl⟩
          go_wp2
          go_ret
          exact ⟨rfl, hbel⟩
      · obtain rfl : k = rows.length := by omega
        have hrr : res = left - rows.length - (offR rows rows.length : Int) := by rw [HRES.out, if_pos (by omega)]; omega
        subst hrr
        go_wp2
        go_ret
        exact ⟨rfl, hbel⟩
  · rw [if_neg (by omega)]
    have hlt : left < (rows.length : Int) := by omega
    clear hlen
    go_enter Tryz.func52, Tryz.ntmps52
    go_wp2
    go_ret
    exact ⟨rfl, Below.refl _ _⟩
def PairsP (n : Int) (ps : List (List Int)) : Prop := ∀ r ∈ ps, r.length = 2 ∧ AllP n r
instance (n : Int) (ps : List (List Int)) : Decidable (PairsP n ps) := inferInstanceAs (Decidable (∀ r ∈ ps, _))
end Go.Proofs.YtpcabkdkdnchaaaGreat
set_option linter.unusedSimpArgs false
set_option linter.unusedVariables false
set_option linter.unusedSectionVars false
namespace Go.Proofs.YtpcabkdkdnchaaaGreat
open Go.RowKit
def RdC (w : World) (v : Value) (c : Cat) : Prop :=
  ∃ vs vt ve vm, v = .agg #[.int .i64 c.ob, vs, vt, ve, vm] ∧ Rd w vs c.s ∧ Rd w vt c.t ∧ Rd w ve c.e ∧ Rd2 w vm c.m
def OwnC (v : Value) (c : Cat) (w : World) (S : Nat → Prop) : Prop :=
  ∃ vs vt ve vm, v = .agg #[.int .i64 c.ob, vs, vt, ve, vm] ∧ Sep (Own1 vs c.s) (Sep (Own1 vt c.t) (Sep (Own1 ve c.e) (Own2 vm c.m))) w S
def InC (w : World) (v : Value) (c : Cat) : Prop :=
  ∃ vs vt ve vm, v = .agg #[.int .i64 c.ob, vs, vt, ve, vm] ∧ In w vs c.s ∧ In w vt c.t ∧ In w ve c.e ∧ In2 w vm c.m
theorem rdC_below {w w' : World} {v : Value} {c : Cat} (hb : Below w.heap.size w w') (h : RdC w v c) : RdC w' v c := by
  obtain ⟨vs, vt, ve, vm, hv, h1, h2, h3, h4⟩ := h
  exact ⟨vs, vt, ve, vm, hv, rd_below hb h1, rd_below hb h2, rd_below hb h3, rd2_below hb h4⟩
def szM (c : Cat) : Nat := c.s.length + c.t.length + c.e.length + (c.m.length + offR c.m c.m.length)
def mzC (c : Cat) : Nat := c.s.length + c.t.length + c.e.length + offR c.m c.m.length
theorem InC.rd {w : World} {v : Value} {c : Cat} (h : InC w v c) (hl : szM c ≤ 1048576) : RdC w v c := by
  obtain ⟨vs, vt, ve, vm, hv, h1, h2, h3, h4⟩ := h
  unfold szM at hl
  exact ⟨vs, vt, ve, vm, hv, h1.rd (by omega), h2.rd (by omega), h3.rd (by omega), h4.rd (by omega)⟩
theorem rd_form {w : World} {v : Value} {xs : List Int} (h : Rd w v xs) : ∃ (a : Option Addr) (cap : Nat), v = .slice a xs.length cap := by
  obtain ⟨a, cap, hv, _⟩ := h
  exact ⟨a, cap, hv⟩
theorem rd2_form {w : World} {v : Value} {xs : List (List Int)} (h : Rd2 w v xs) : ∃ (a : Option Addr) (cap : Nat), v = .slice a xs.length cap := by
  obtain ⟨a, cap, hv, _⟩ := h
  exact ⟨a, cap, hv⟩
theorem sep_mk {A B : World → (Nat → Prop) → Prop} {w : World} {lo a b : Nat} (ha : A w (span a b)) (hb : B w (fun k => b ≤ k)) (h1 : lo ≤ a) (h2 : lo ≤ b) : Sep A B w (fun k => lo ≤ k) :=
  ⟨span a b, fun k => b ≤ k, fun k h => Nat.le_trans h1 h.1, fun k h => Nat.le_trans h2 h, fun k h h' => by unfold span at h; omega, ha, hb⟩
def RetC (W : World) (c : Cat) (e : Ending) (w' : World) : Prop := ∃ v, e = .returned v ∧ OwnC v c w' (fun k => W.heap.size ≤ k) ∧ Below W.heap.size W w'
def RetCI (W : World) (c : Cat) (n : Int) (e : Ending) (w' : World) : Prop := ∃ v, e = .returned (.tuple #[v, .int .i64 n]) ∧ OwnC v c w' (fun k => W.heap.size ≤ k) ∧ Below W.heap.size W w'
end Go.Proofs.YtpcabkdkdnchaaaGreat
namespace Go.Proofs.YtpcabkdkdnchaaaGreat
open Go.RowKit
def Bx (w : World) (B : Nat) (t : TypeId) (cs : List Value) : Prop := w.heap[B]? = some (.cells cs.toArray t (0, 0))
theorem bx_below {w w' : World} {B : Nat} {t : TypeId} {cs : List Value} (hb : Below w.heap.size w w') (h : Bx w B t cs) : Bx w' B t cs := by
  unfold Bx at h ⊢
  rw [hb.block B (Array.getElem?_eq_some_iff.1 h).1]; exact h
theorem bx_lt {w : World} {B : Nat} {t : TypeId} {cs : List Value} (h : Bx w B t cs) : B < w.heap.size := (Array.getElem?_eq_some_iff.1 h).1
theorem bx_cell {w : World} {B : Nat} {t : TypeId} {cs : List Value} (h : Bx w B t cs) (i : Nat) {v : Value} (hv : cs[i]? = some v) : w.cell? ⟨B, i, none⟩ = some v := by
  rw [cell_of_row w B i _ _ (0, 0) h]; simpa using hv
theorem bx_frozen {w : World} {B : Nat} {t : TypeId} {cs : List Value} (h : Bx w B t cs) (i : Nat) : w.frozen? ⟨B, i, none⟩ = false := frozen_of_row w B i _ _ h
theorem bx_set {w : World} {B : Nat} {t : TypeId} {cs : List Value} (h : Bx w B t cs) (i : Nat) (v : Value) : Bx (w.setCell ⟨B, i, none⟩ v) B t (cs.set i v) := by
  have := heap_setCell_same w B i _ _ v h
  unfold Bx
  rw [this]; simp
theorem bx_other {w : World} {B A : Nat} {t : TypeId} {cs : List Value} (h : Bx w B t cs) (i : Nat) (v : Value) (hne : A ≠ B) : Bx (w.setCell ⟨A, i, none⟩ v) B t cs := by
  unfold Bx
  rw [heap_setCell_other w ⟨A, i, none⟩ B v (fun e => hne e.symm)]; exact h
theorem bx_new (w : World) (t : TypeId) (cs : List Value) : Bx (w.alloc (.cells cs.toArray t)) w.heap.size t cs := by
  unfold Bx; exact heap_alloc_new w _
theorem bx_alloc {w : World} {B : Nat} {t : TypeId} {cs : List Value} (h : Bx w B t cs) (o : Obj) : Bx (w.alloc o) B t cs := bx_below ((Below.refl _ _).alloc (Nat.le_refl _) o) h
theorem bx_at {w : World} {B B' : Nat} {t : TypeId} {cs : List Value} (h : Bx w B t cs) (e : B = B') : Bx w B' t cs := by rw [← e]; exact h
theorem agree_set {w : World} {B i : Nat} {v : Value} {S : Nat → Prop} (h : ¬ S B) : Agree S w (w.setCell ⟨B, i, none⟩ v) := fun k _ hs => heap_setCell_other w ⟨B, i, none⟩ k v (fun e => h (by have e' : k = B := e; rw [← e']; exact hs))
theorem frS_set {w : World} {B i : Nat} {v : Value} {S : Nat → Prop} (h : S B) : FrS S w (w.setCell ⟨B, i, none⟩ v) :=
  ⟨rfl, rfl, rfl, by simp, fun k _ hk => heap_setCell_other w ⟨B, i, none⟩ k v (fun e => hk (by rw [e]; exact h))⟩
set_option maxHeartbeats 800000 in
set_option maxRecDepth 100000 in
theorem toC_any (w : World) (v : Value) (c : Cat) (h : RdC w v c) :
    Calls Tryz.prog 22 #[v] w (RetC w c) := by
  obtain ⟨vs, vt, ve, vm, rfl, h1, h2, h3, h4⟩ := h
  obtain ⟨x1, k1, rfl⟩ := rd_form h1
  obtain ⟨x2, k2, rfl⟩ := rd_form h2
  obtain ⟨x3, k3, rfl⟩ := rd_form h3
  obtain ⟨x4, k4, rfl⟩ := rd2_form h4
  have H1 := Lib.hid h1; have H2 := Lib.hid h2; have H3 := Lib.hid h3; have H4 := Lib.hid h4
  clear h1 h2 h3 h4
  go_enter Tryz.func22, Tryz.ntmps22
  go_wp2_with fail
  generalize hW : World.alloc _ _ = W
  have A0 : Bx W w.heap.size 25 [.int .i64 c.ob, .slice x1 c.s.length k1, .slice x2 c.t.length k2, .slice x3 c.e.length k3, .slice x4 c.m.length k4] := by rw [← hW]; exact bx_alloc (bx_alloc (bx_new _ _ _) _) _
  have A2 : Bx W (w.heap.size + 1 + 1) 29 [.int .i64 c.ob, .slice none 0 0, .slice none 0 0, .slice none 0 0, .slice none 0 0] := by rw [← hW]; exact bx_at (bx_new _ _ _) (by simp)
  have A1 : Bx W (w.heap.size + 1) 29 [.int .i64 0, .slice none 0 0, .slice none 0 0, .slice none 0 0, .slice none 0 0] := by rw [← hW]; exact bx_alloc (bx_at (bx_new _ _ _) (by simp)) _
  have hb : Below w.heap.size w W := by rw [← hW]; exact (((Below.refl _ _).alloc (Nat.le_refl _) _).alloc (by simp) _).alloc (by simp; omega) _
  have zW : W.heap.size = w.heap.size + 3 := by rw [← hW]; simp
  clear hW
  refine (to_any _ _ c.s (rd_below hb H1.out)).mono ?_; rintro e1 u1 ⟨y1, rfl, s1, hn1⟩
  replace A0 := bx_below hn1 A0
  replace A1 := bx_below hn1 A1
  replace A2 := bx_below hn1 A2
  replace s1 := (own1_loc _ _).span (own1_of s1)
  obtain ⟨p1, q1, rfl⟩ := rd_form s1.rd
  have z1 := hn1.size
  replace hb := hb.trans (hn1.mono hb.size)
  clear hn1
  have S1 := Lib.hid s1; have X0 := Lib.hid A0; have X1 := Lib.hid A1; have X2 := Lib.hid A2; clear s1 A0 A1 A2
  have cc := bx_cell X0.out 2 rfl
  have cd := bx_cell X2.out 1 rfl
  have ce := bx_frozen X2.out 1
  go_wp2_with fail
  generalize hW : World.setCell _ _ _ = W1
  have A0 := bx_other (A := w.heap.size + 1 + 1) X0.out 1 (.slice p1 c.s.length q1) (by omega)
  rw [hW] at A0
  have A1 := bx_other (A := w.heap.size + 1 + 1) X1.out 1 (.slice p1 c.s.length q1) (by omega)
  rw [hW] at A1
  have A2 := bx_set X2.out 1 (.slice p1 c.s.length q1)
  rw [hW] at A2
  replace hb : Below w.heap.size w W1 := by rw [← hW]; exact hb.setCell (by simp; omega) _
  have T1 := (own1_loc _ _).keep (w' := W1) (fun _ _ hs => hs) (by rw [← hW]; exact agree_set (by unfold span; omega)) S1.out
  have zz : W1.heap.size = u1.heap.size := by rw [← hW]; simp
  clear hW cc cd ce X0 X1 X2
  clear S1; have S1 := Lib.hid T1; clear T1
  have X0 := Lib.hid A0; have X1 := Lib.hid A1; have X2 := Lib.hid A2; clear A0 A1 A2
  refine (to_any _ _ c.t (rd_below hb H2.out)).mono ?_; rintro e2 u2 ⟨y2, rfl, s2, hn2⟩
  have A0 := bx_below hn2 X0.out
  have A1 := bx_below hn2 X1.out
  have A2 := bx_below hn2 X2.out
  replace s2 := (own1_loc _ _).span (own1_of s2)
  obtain ⟨p2, q2, rfl⟩ := rd_form s2.rd
  have z2 := hn2.size
  have T1 := (own1_loc _ _).below hn2 S1.out
  replace hb := hb.trans (hn2.mono hb.size)
  clear hn2
  clear S1; have S1 := Lib.hid T1; clear T1
  clear X0 X1 X2
  have S2 := Lib.hid s2; have X0 := Lib.hid A0; have X1 := Lib.hid A1; have X2 := Lib.hid A2; clear s2 A0 A1 A2
  have cc := bx_cell X0.out 3 rfl
  have cd := bx_cell X2.out 2 rfl
  have ce := bx_frozen X2.out 2
  go_wp2_with fail
  generalize hW : World.setCell _ _ _ = W2
  have A0 := bx_other (A := w.heap.size + 1 + 1) X0.out 2 (.slice p2 c.t.length q2) (by omega)
  rw [hW] at A0
  have A1 := bx_other (A := w.heap.size + 1 + 1) X1.out 2 (.slice p2 c.t.length q2) (by omega)
  rw [hW] at A1
  have A2 := bx_set X2.out 2 (.slice p2 c.t.length q2)
  rw [hW] at A2
  replace hb : Below w.heap.size w W2 := by rw [← hW]; exact hb.setCell (by simp; omega) _
  have T1 := (own1_loc _ _).keep (w' := W2) (fun _ _ hs => hs) (by rw [← hW]; exact agree_set (by unfold span; omega)) S1.out
  have T2 := (own1_loc _ _).keep (w' := W2) (fun _ _ hs => hs) (by rw [← hW]; exact agree_set (by unfold span; omega)) S2.out
  have zz : W2.heap.size = u2.heap.size := by rw [← hW]; simp
  clear hW cc cd ce X0 X1 X2
  clear S1; have S1 := Lib.hid T1; clear T1
  clear S2; have S2 := Lib.hid T2; clear T2
  have X0 := Lib.hid A0; have X1 := Lib.hid A1; have X2 := Lib.hid A2; clear A0 A1 A2
  refine (to_any _ _ c.e (rd_below hb H3.out)).mono ?_; rintro e3 u3 ⟨y3, rfl, s3, hn3⟩
  have A0 := bx_below hn3 X0.out
  have A1 := bx_below hn3 X1.out
  have A2 := bx_below hn3 X2.out
  replace s3 := (own1_loc _ _).span (own1_of s3)
  obtain ⟨p3, q3, rfl⟩ := rd_form s3.rd
  have z3 := hn3.size
  have T1 := (own1_loc _ _).below hn3 S1.out
  have T2 := (own1_loc _ _).below hn3 S2.out
  replace hb := hb.trans (hn3.mono hb.size)
  clear hn3
  clear S1; have S1 := Lib.hid T1; clear T1
  clear S2; have S2 := Lib.hid T2; clear T2
  clear X0 X1 X2
  have S3 := Lib.hid s3; have X0 := Lib.hid A0; have X1 := Lib.hid A1; have X2 := Lib.hid A2; clear s3 A0 A1 A2
  have cc := bx_cell X0.out 4 rfl
  have cd := bx_cell X2.out 3 rfl
  have ce := bx_frozen X2.out 3
  go_wp2_with fail
  generalize hW : World.setCell _ _ _ = W3
  have A0 := bx_other (A := w.heap.size + 1 + 1) X0.out 3 (.slice p3 c.e.length q3) (by omega)
  rw [hW] at A0
  have A1 := bx_other (A := w.heap.size + 1 + 1) X1.out 3 (.slice p3 c.e.length q3) (by omega)
  rw [hW] at A1
  have A2 := bx_set X2.out 3 (.slice p3 c.e.length q3)
  rw [hW] at A2
  replace hb : Below w.heap.size w W3 := by rw [← hW]; exact hb.setCell (by simp; omega) _
  have T1 := (own1_loc _ _).keep (w' := W3) (fun _ _ hs => hs) (by rw [← hW]; exact agree_set (by unfold span; omega)) S1.out
  have T2 := (own1_loc _ _).keep (w' := W3) (fun _ _ hs => hs) (by rw [← hW]; exact agree_set (by unfold span; omega)) S2.out
  have T3 := (own1_loc _ _).keep (w' := W3) (fun _ _ hs => hs) (by rw [← hW]; exact agree_set (by unfold span; omega)) S3.out
  have zz : W3.heap.size = u3.heap.size := by rw [← hW]; simp
  clear hW cc cd ce X0 X1 X2
  clear S1; have S1 := Lib.hid T1; clear T1
  clear S2; have S2 := Lib.hid T2; clear T2
  clear S3; have S3 := Lib.hid T3; clear T3
  have X0 := Lib.hid A0; have X1 := Lib.hid A1; have X2 := Lib.hid A2; clear A0 A1 A2
  refine (to2_any _ _ c.m (rd2_below hb H4.out)).mono ?_; rintro e4 u4 ⟨y4, rfl, s4, hn4⟩
  have A0 := bx_below hn4 X0.out
  have A1 := bx_below hn4 X1.out
  have A2 := bx_below hn4 X2.out
  replace s4 := (own2_loc _ _).span (own2_of s4)
  obtain ⟨p4, q4, rfl⟩ := rd2_form s4.rd
  have z4 := hn4.size
  have T1 := (own1_loc _ _).below hn4 S1.out
  have T2 := (own1_loc _ _).below hn4 S2.out
  have T3 := (own1_loc _ _).below hn4 S3.out
  replace hb := hb.trans (hn4.mono hb.size)
  clear hn4
  clear S1; have S1 := Lib.hid T1; clear T1
  clear S2; have S2 := Lib.hid T2; clear T2
  clear S3; have S3 := Lib.hid T3; clear T3
  clear X0 X1 X2
  have S4 := Lib.hid s4; have X0 := Lib.hid A0; have X1 := Lib.hid A1; have X2 := Lib.hid A2; clear s4 A0 A1 A2
  have c0 := bx_cell X2.out 0 rfl
  have c1 := bx_cell X2.out 1 rfl
  have c2 := bx_cell X2.out 2 rfl
  have c3 := bx_cell X2.out 3 rfl
  have c4 := bx_cell X2.out 4 rfl
  have cf := bx_frozen X2.out 4
  have d0 := bx_cell X1.out 0 rfl
  have d1 := bx_cell X1.out 1 rfl
  have d2 := bx_cell X1.out 2 rfl
  have d3 := bx_cell X1.out 3 rfl
  have d4 := bx_cell X1.out 4 rfl
  have f0 := bx_frozen X1.out 0
  have f1 := bx_frozen X1.out 1
  have f2 := bx_frozen X1.out 2
  have f3 := bx_frozen X1.out 3
  have f4 := bx_frozen X1.out 4
  have g0 := bx_frozen X2.out 4
  have g1 := bx_set X2.out 4 (.slice p4 c.m.length q4)
  have g2 := bx_cell g1 0 rfl
  go_wp2
  generalize hW : World.setCell _ _ _ = WF
  have fr := (((((((FrS.refl (fun k => k < w.heap.size + 3) u4).trans (frS_set (B := w.heap.size + 1 + 1) (i := 4) (v := .slice p4 c.m.length q4) (by omega))).trans (frS_set (B := w.heap.size + 1) (i := 0) (v := .int .i64 c.ob) (by omega))).trans (frS_set (B := w.heap.size + 1) (i := 1) (v := .slice p1 c.s.length q1) (by omega))).trans (frS_set (B := w.heap.size + 1) (i := 2) (v := .slice p2 c.t.length q2) (by omega))).trans (frS_set (B := w.heap.size + 1) (i := 3) (v := .slice p3 c.e.length q3) (by omega))).trans (frS_set (B := w.heap.size + 1) (i := 4) (v := .slice p4 c.m.length q4) (by omega)))
  have Y := bx_set (bx_set (bx_set (bx_set (bx_set (bx_other (A := w.heap.size + 1 + 1) X1.out 4 (.slice p4 c.m.length q4) (by omega)) 0 (.int .i64 c.ob)) 1 (.slice p1 c.s.length q1)) 2 (.slice p2 c.t.length q2)) 3 (.slice p3 c.e.length q3)) 4 (.slice p4 c.m.length q4)
  rw [hW] at fr Y
  have hbF : Below w.heap.size w WF := by
    rw [← hW]
    exact (((((hb.setCell (by simp; omega) _).setCell (by simp) _).setCell (by simp) _).setCell (by simp) _).setCell (by simp) _).setCell (by simp) _
  clear hW
  have T1 := (own1_loc _ _).keep (w' := WF) (fun _ _ hs => hs) (agree_frS fr fun k k1 k2 => by unfold span at k2; omega) S1.out
  have T2 := (own1_loc _ _).keep (w' := WF) (fun _ _ hs => hs) (agree_frS fr fun k k1 k2 => by unfold span at k2; omega) S2.out
  have T3 := (own1_loc _ _).keep (w' := WF) (fun _ _ hs => hs) (agree_frS fr fun k k1 k2 => by unfold span at k2; omega) S3.out
  have T4 := (own2_loc _ _).keep (w' := WF) (fun _ _ hs => hs) (agree_frS fr fun k k1 k2 => by unfold span at k2; omega) S4.out
  have e0 := bx_cell Y 0 rfl
  have e1 := bx_cell Y 1 rfl
  have e2 := bx_cell Y 2 rfl
  have e3 := bx_cell Y 3 rfl
  have e4 := bx_cell Y 4 rfl
  have hF : Hid (RetC w c (.returned (.agg #[.int .i64 c.ob, .slice p1 c.s.length q1, .slice p2 c.t.length q2, .slice p3 c.e.length q3, .slice p4 c.m.length q4])) WF) := by
    refine ⟨_, rfl, ⟨_, _, _, _, rfl, sep_mk (a := W.heap.size) (b := u1.heap.size) T1 ?_ (by omega) (by omega)⟩, hbF⟩
    refine sep_mk (a := W1.heap.size) (b := u2.heap.size) T2 ?_ (by omega) (by omega)
    refine sep_mk (a := W2.heap.size) (b := u3.heap.size) T3 ?_ (by omega) (by omega)
    exact (own2_loc _ _).keep (fun k _ hk => by unfold span at hk; omega) agree_refl T4
  clear T1 T2 T3 T4 S1 S2 S3 S4 X0 X1 X2 d0 d1 d2 d3 d4 f0 f1 f2 f3 f4 g0 g1 g2 fr Y
  exact bodyPost_ret (v := .agg #[.int .i64 c.ob, .slice p1 c.s.length q1, .slice p2 c.t.length q2, .slice p3 c.e.length q3, .slice p4 c.m.length q4]) (by simp [results, Tryz.results22, go_sem, e0, e1, e2, e3, e4]) rfl hF.out
theorem bx5 {w : World} {B : Nat} {t : TypeId} {a b d e f : Value} (h : Bx w B t [a, b, d, e, f]) :
    w.cell? ⟨B, 0, none⟩ = some a ∧ w.cell? ⟨B, 1, none⟩ = some b ∧ w.cell? ⟨B, 2, none⟩ = some d ∧ w.cell? ⟨B, 3, none⟩ = some e ∧ w.cell? ⟨B, 4, none⟩ = some f :=
  ⟨bx_cell h 0 rfl, bx_cell h 1 rfl, bx_cell h 2 rfl, bx_cell h 3 rfl, bx_cell h 4 rfl⟩
set_option maxHeartbeats 800000 in
set_option maxRecDepth 100000 in
theorem eqC_refl_any (w : World) (v u : Value) (c : Cat) (h : RdC w v c) (h' : RdC w u c) :
    Calls Tryz.prog 24 #[v, u] w (RetB w true) := by
  obtain ⟨vs, vt, ve, vm, rfl, h1, h2, h3, h4⟩ := h
  obtain ⟨us, ut, ue, um, rfl, k1, k2, k3, k4⟩ := h'
  have H1 := Lib.hid h1; have H2 := Lib.hid h2; have H3 := Lib.hid h3; have H4 := Lib.hid h4
  have K1 := Lib.hid k1; have K2 := Lib.hid k2; have K3 := Lib.hid k3; have K4 := Lib.hid k4
  clear h1 h2 h3 h4 k1 k2 k3 k4
  have hne : (c.ob != c.ob) = false := by simp
  go_enter Tryz.func24, Tryz.ntmps24
  go_wp2_with fail
  generalize hW : World.alloc _ _ = W
  have A0 : Bx W w.heap.size 29 [.int .i64 c.ob, vs, vt, ve, vm] := by rw [← hW]; exact bx_alloc (bx_new _ _ _) _
  have A1 : Bx W (w.heap.size + 1) 29 [.int .i64 c.ob, us, ut, ue, um] := by rw [← hW]; exact bx_at (bx_new _ _ _) (by simp)
  have hb : Below w.heap.size w W := by rw [← hW]; exact ((Below.refl _ _).alloc (Nat.le_refl _) _).alloc (by simp) _
  clear hW
  refine (eq_refl_any _ _ _ c.s (rd_below hb H1.out) (rd_below hb K1.out)).mono ?_; rintro e1 u1 ⟨rfl, hn1⟩
  replace A0 := bx_below hn1 A0; replace A1 := bx_below hn1 A1
  replace hb := hb.trans (hn1.mono hb.size)
  clear hn1
  have c0 := bx5 A0; have c1 := bx5 A1
  have X0 := Lib.hid A0; have X1 := Lib.hid A1; clear A0 A1
  go_wp2_with fail
  refine (eq_refl_any _ _ _ c.t (rd_below hb H2.out) (rd_below hb K2.out)).mono ?_; rintro e2 u2 ⟨rfl, hn2⟩
  have A0 := bx_below hn2 X0.out; have A1 := bx_below hn2 X1.out
  replace hb := hb.trans (hn2.mono hb.size)
  clear hn2 c0 c1 X0 X1
  have c0 := bx5 A0; have c1 := bx5 A1
  have X0 := Lib.hid A0; have X1 := Lib.hid A1; clear A0 A1
  go_wp2_with fail
  refine (eq_refl_any _ _ _ c.e (rd_below hb H3.out) (rd_below hb K3.out)).mono ?_; rintro e3 u3 ⟨rfl, hn3⟩
  have A0 := bx_below hn3 X0.out; have A1 := bx_below hn3 X1.out
  replace hb := hb.trans (hn3.mono hb.size)
  clear hn3 c0 c1 X0 X1
  have c0 := bx5 A0; have c1 := bx5 A1
  clear A0 A1
  go_wp2_with fail
  refine (eq2_refl_any _ _ _ c.m (rd2_below hb H4.out) (rd2_below hb K4.out)).mono ?_; rintro e4 u4 ⟨rfl, hn4⟩
  replace hb := hb.trans (hn4.mono hb.size)
  clear hn4 c0 c1
  go_wp2
  go_ret
  exact ⟨rfl, hb⟩
theorem in2_below {w w' : World} {v : Value} {rows : List (List Int)} (hb : Below w.heap.size w w') (h : In2 w v rows) : In2 w' v rows := by
  obtain ⟨a, cap, hv, hl, hc⟩ := h
  refine ⟨a, cap, hv, hl, fun j hj => ?_⟩
  obtain ⟨b, off, ha, hbs, hcell⟩ := hc j hj
  refine ⟨b, off, ha, Nat.lt_of_lt_of_le hbs hb.size, fun i hi => ?_⟩
  obtain ⟨u, h1, h2⟩ := hcell i hi
  exact ⟨u, (hb.cell (p := ⟨b, off + i, none⟩) hbs).trans h1, in_below hb h2⟩
theorem inC_below {w w' : World} {v : Value} {c : Cat} (hb : Below w.heap.size w w') (h : InC w v c) : InC w' v c := by
  obtain ⟨vs, vt, ve, vm, hv, h1, h2, h3, h4⟩ := h
  exact ⟨vs, vt, ve, vm, hv, in_below hb h1, in_below hb h2, in_below hb h3, in2_below hb h4⟩
theorem In.form {w : World} {v : Value} {xs : List Int} (h : In w v xs) : ∃ (a : Option Addr) (cap : Nat), v = .slice a xs.length cap := by
  obtain ⟨a, cap, hv, _⟩ := h
  exact ⟨a, cap, hv⟩
theorem In2.form {w : World} {v : Value} {xs : List (List Int)} (h : In2 w v xs) : ∃ (a : Option Addr) (cap : Nat), v = .slice a xs.length cap := by
  obtain ⟨a, cap, hv, _⟩ := h
  exact ⟨a, cap, hv⟩
theorem InC.form {w : World} {v : Value} {c : Cat} (h : InC w v c) : ∃ (x1 x2 x3 x4 : Option Addr) (k1 k2 k3 k4 : Nat), v = .agg #[.int .i64 c.ob, .slice x1 c.s.length k1, .slice x2 c.t.length k2, .slice x3 c.e.length k3, .slice x4 c.m.length k4] := by
  obtain ⟨vs, vt, ve, vm, rfl, h1, h2, h3, h4⟩ := h
  obtain ⟨a1, c1, rfl⟩ := h1.form
  obtain ⟨a2, c2, rfl⟩ := h2.form
  obtain ⟨a3, c3, rfl⟩ := h3.form
  obtain ⟨a4, c4, rfl⟩ := h4.form
  exact ⟨a1, a2, a3, a4, c1, c2, c3, c4, rfl⟩
theorem mz_le (c : Cat) : mzC c ≤ szM c := by unfold mzC szM; omega
set_option maxHeartbeats 800000 in
set_option maxRecDepth 100000 in
theorem szC_any (w : World) (v : Value) (c : Cat) (left : Int) (h : InC w v c) (h0 : 0 ≤ left) (h1 : left ≤ 1048576) :
    Calls Tryz.prog 20 #[v, .int .i64 left] w (fun e w' => e = .returned (.int .i64 (if ((szM c : Nat) : Int) ≤ left then left - ((szM c : Nat) : Int) else -1)) ∧ Below w.heap.size w w') := by
  obtain ⟨vs, vt, ve, vm, rfl, g1, g2, g3, g4⟩ := h
  have H1 := Lib.hid g1; have H2 := Lib.hid g2; have H3 := Lib.hid g3; have H4 := Lib.hid g4
  clear g1 g2 g3 g4
  obtain ⟨M, hM⟩ : ∃ M, M = szM c := ⟨_, rfl⟩
  rw [← hM]
  unfold szM at hM
  obtain ⟨n1, e1⟩ : ∃ n, n = c.s.length := ⟨_, rfl⟩
  obtain ⟨n2, e2⟩ : ∃ n, n = c.t.length := ⟨_, rfl⟩
  obtain ⟨n3, e3⟩ : ∃ n, n = c.e.length := ⟨_, rfl⟩
  obtain ⟨n4, e4⟩ : ∃ n, n = c.m.length + offR c.m c.m.length := ⟨_, rfl⟩
  rw [← e1, ← e2, ← e3, ← e4] at hM
  have E1 := Lib.hid e1; have E2 := Lib.hid e2; have E3 := Lib.hid e3; have E4 := Lib.hid e4
  clear e1 e2 e3 e4
  obtain ⟨res, hres⟩ : ∃ res, res = (if (M : Int) ≤ left then left - (M : Int) else -1) := ⟨_, rfl⟩
  rw [← hres]
  have hres' : (M : Int) ≤ left ∧ res = left - M ∨ left < (M : Int) ∧ res = -1 := by
    by_cases hc : (M : Int) ≤ left
    · exact .inl ⟨hc, by rw [hres, if_pos hc]⟩
    · exact .inr ⟨by omega, by rw [hres, if_neg hc]⟩
  have HM := Lib.hid hM; have HR := Lib.hid hres'; clear hres hres' hM
  go_enter Tryz.func20, Tryz.ntmps20
  go_wp2_with fail
  generalize hW : World.alloc _ _ = W
  have A0 : Bx W w.heap.size 25 [.int .i64 c.ob, vs, vt, ve, vm] := by rw [← hW]; exact bx_new _ _ _
  have hb : Below w.heap.size w W := by rw [← hW]; exact (Below.refl _ _).alloc (Nat.le_refl _) _
  clear hW
  have c0 := bx5 A0
  have X0 := Lib.hid A0; clear A0
  refine (sz_any _ _ c.s left (in_below hb H1.out) h0 h1).mono ?_
  rw [← E1.out]
  rintro e w1 ⟨rfl, rfl⟩
  by_cases q1 : (n1 : Int) ≤ left
  · rw [if_pos q1]
    have i1 : ¬ left - n1 < 0 := by omega
    go_wp2_with fail
    refine (sz_any _ _ c.t (left - n1) (in_below hb H2.out) (by omega) (by omega)).mono ?_
    rw [← E2.out]
    rintro e w1 ⟨rfl, rfl⟩
    by_cases q2 : (n2 : Int) ≤ left - n1
    · rw [if_pos q2]
      have i2 : ¬ left - n1 - n2 < 0 := by omega
      go_wp2_with fail
      refine (sz_any _ _ c.e (left - n1 - n2) (in_below hb H3.out) (by omega) (by omega)).mono ?_
      rw [← E3.out]
      rintro e w1 ⟨rfl, rfl⟩
      by_cases q3 : (n3 : Int) ≤ left - n1 - n2
      · rw [if_pos q3]
        have i3 : ¬ left - n1 - n2 - n3 < 0 := by omega
        go_wp2_with fail
        refine (sz2_any _ _ c.m (left - n1 - n2 - n3) (in2_below hb H4.out) (by omega) (by omega)).mono ?_
        rw [← E4.out]
        rintro e w1 ⟨rfl, hn1⟩
        replace hb := hb.trans (hn1.mono hb.size)
        clear c0
        by_cases q4 : (n4 : Int) ≤ left - n1 - n2 - n3
        · rw [if_pos q4]
          have i4 : ¬ left - n1 - n2 - n3 - n4 < 0 := by omega
          go_wp2
          go_ret
          exact ⟨ret_i (by have := HM.out; rcases HR.out with ⟨a, b⟩ | ⟨a, b⟩ <;> omega), hb⟩
        · rw [if_neg q4]
          go_wp2
          go_ret
          exact ⟨ret_i (by have := HM.out; rcases HR.out with ⟨a, b⟩ | ⟨a, b⟩ <;> omega), hb⟩
      · rw [if_neg q3]
        go_wp2
        go_ret
        exact ⟨ret_i (by have := HM.out; rcases HR.out with ⟨a, b⟩ | ⟨a, b⟩ <;> omega), hb⟩
    · rw [if_neg q2]
      go_wp2
      go_ret
      exact ⟨ret_i (by have := HM.out; rcases HR.out with ⟨a, b⟩ | ⟨a, b⟩ <;> omega), hb⟩
  · rw [if_neg q1]
    go_wp2
    go_ret
    exact ⟨ret_i (by have := HM.out; rcases HR.out with ⟨a, b⟩ | ⟨a, b⟩ <;> omega), hb⟩
end Go.Proofs.YtpcabkdkdnchaaaGreat
namespace Go.Proofs.YtpcabkdkdnchaaaGreat
open Go.RowKit
open Go.Joins Go.ChangeShapes Go.WideShapes Go.Deep
theorem frS_new {S : Nat → Prop} {w w' : World} (hb : Below w.heap.size w w') : FrS S w w' := ⟨hb.os, hb.tape, hb.output, hb.size, fun k hk _ => hb.block k hk⟩
theorem ownC_open {w : World} {S : Nat → Prop} {v : Value} {c : Cat} (h : OwnC v c w S) : ∃ (vs vt ve vm : Value) (P1 P2 P3 P4 : Nat → Prop), v = .agg #[.int .i64 c.ob, vs, vt, ve, vm] ∧
    Own1 vs c.s w P1 ∧ Own1 vt c.t w P2 ∧ Own1 ve c.e w P3 ∧ Own2 vm c.m w P4 ∧ (∀ k, P1 k ∨ P2 k ∨ P3 k ∨ P4 k → S k ∧ k < w.heap.size) ∧
    (∀ k, P1 k → ¬ P2 k) ∧ (∀ k, P1 k → ¬ P3 k) ∧ (∀ k, P1 k → ¬ P4 k) ∧ (∀ k, P2 k → ¬ P3 k) ∧ (∀ k, P2 k → ¬ P4 k) ∧ (∀ k, P3 k → ¬ P4 k) := by
  obtain ⟨vs, vt, ve, vm, rfl, S1, T1, a1, b1, d1, h1, S2, T2, a2, b2, d2, h2, S3, S4, a3, b3, d3, h3, h4⟩ := h
  refine ⟨vs, vt, ve, vm, _, _, _, _, rfl, (own1_loc _ _).fin h1, (own1_loc _ _).fin h2, (own1_loc _ _).fin h3, (own2_loc _ _).fin h4, ?_, fun k h h' => d1 k h.1 (a2 k h'.1), fun k h h' => d1 k h.1 (b2 k (a3 k h'.1)), fun k h h' => d1 k h.1 (b2 k (b3 k h'.1)), fun k h h' => d2 k h.1 (a3 k h'.1), fun k h h' => d2 k h.1 (b3 k h'.1), fun k h h' => d3 k h.1 h'.1⟩
  rintro k (h | h | h | h)
  · exact ⟨a1 k h.1, h.2⟩
  · exact ⟨b1 k (a2 k h.1), h.2⟩
  · exact ⟨b1 k (b2 k (a3 k h.1)), h.2⟩
  · exact ⟨b1 k (b2 k (b3 k h.1)), h.2⟩
theorem ownC_shut {w : World} {S : Nat → Prop} {c : Cat} {vs vt ve vm : Value} {P1 P2 P3 P4 : Nat → Prop} (h1 : Own1 vs c.s w P1) (h2 : Own1 vt c.t w P2) (h3 : Own1 ve c.e w P3) (h4 : Own2 vm c.m w P4)
    (hs : ∀ k, P1 k ∨ P2 k ∨ P3 k ∨ P4 k → S k) (d12 : ∀ k, P1 k → ¬ P2 k) (d13 : ∀ k, P1 k → ¬ P3 k) (d14 : ∀ k, P1 k → ¬ P4 k) (d23 : ∀ k, P2 k → ¬ P3 k) (d24 : ∀ k, P2 k → ¬ P4 k) (d34 : ∀ k, P3 k → ¬ P4 k) :
    OwnC (.agg #[.int .i64 c.ob, vs, vt, ve, vm]) c w S :=
  ⟨vs, vt, ve, vm, rfl, P1, fun k => P2 k ∨ P3 k ∨ P4 k, fun k h => hs k (.inl h), fun k h => hs k (.inr h), fun k h h' => by rcases h' with h' | h' | h'; exact d12 k h h'; exact d13 k h h'; exact d14 k h h', h1,
    P2, fun k => P3 k ∨ P4 k, fun k h => .inl h, fun k h => .inr h, fun k h h' => by rcases h' with h' | h'; exact d23 k h h'; exact d24 k h h', h2, P3, P4, fun k h => .inl h, fun k h => .inr h, d34, h3, h4⟩
set_option maxRecDepth 100000 in
theorem in_of_trod {H : Type} {enc : TypeId × Value → H} {w : World} {v : Value} {x : DataW H × List MemPlace} {fuel : Nat}
    (hf : DataW.trod enc Tryz.prog w 0 (fun _ => true) true fuel 22 [v] = some x) : ∃ xs, In w v xs := by
  rcases open_ints Tryz.underlying22 Tryz.underlying2 cells64 hf with ⟨hcs, _⟩ | ⟨a, len, cap, zs, hcs, _, hl, hm, hz, _, hcell, hwz⟩
  · simp at hcs
    subst hcs
    exact ⟨[], none, 0, rfl, Nat.zero_le _, by simp, fun j hj => absurd hj (Nat.not_lt_zero _)⟩
  · simp at hcs
    subst hcs
    simp only [if_true] at hz
    have htl : (zs.take len).length = len := by simp; omega
    refine ⟨zs.take len, some a, cap, by rw [htl], by omega, fun x hx => hwz x (List.mem_of_mem_take hx), fun j hj => ?_⟩
    rw [htl] at hj
    obtain ⟨b, off, spot⟩ := a
    have hspot : spot = none := by simpa [Addr.add] using World.cell?_spot (hcell 0 (by omega))
    subst hspot
    refine ⟨b, off, rfl, World.block_lt_of_cell? w _ (by simpa using hcell 0 (by omega)), fun i hi => ?_⟩
    rw [htl] at hi
    rw [take_getD hi]
    have hh := hcell i (by omega)
    rw [Addr.add_lit] at hh
    exact hh
set_option maxRecDepth 100000 in
theorem in2_of_trod {H : Type} {enc : TypeId × Value → H} {w : World} {v : Value} {x : DataW H × List MemPlace} {fuel : Nat}
    (hf : DataW.trod enc Tryz.prog w 0 (fun _ => true) true fuel 23 [v] = some x) : ∃ rows, In2 w v rows := by
  rcases Go.Deep.open_int_rows Tryz.underlying23 Tryz.underlying22 Tryz.underlying2 cellsS64 cells64 hf with ⟨hcs, _⟩ | ⟨a, len, cap, A, L, C, Z, hcs, _, hl, hm, _, hrow⟩
  · simp at hcs
    subst hcs
    exact ⟨[], none, 0, rfl, Nat.zero_le _, fun j hj => absurd hj (Nat.not_lt_zero _)⟩
  · simp at hcs
    subst hcs
    have hrl : ((List.range len).map fun r => (Z r).take (L r)).length = len := by simp
    refine ⟨(List.range len).map fun r => (Z r).take (L r), some a, cap, by rw [hrl], by rw [hrl]; omega, fun j hj => ?_⟩
    rw [hrl] at hj
    obtain ⟨b, off, spot⟩ := a
    have hspot : spot = none := by simpa [Addr.add] using World.cell?_spot (hrow 0 (by omega)).1
    subst hspot
    refine ⟨b, off, rfl, World.block_lt_of_cell? w _ (by simpa using (hrow 0 (by omega)).1), fun i hi => ?_⟩
    rw [hrl] at hi
    obtain ⟨h1, h2, h3, h4, h5, h6, h7⟩ := hrow i (by omega)
    rw [Addr.add_lit] at h1
    have hgd : ((List.range len).map fun r => (Z r).take (L r)).getD i [] = (Z i).take (L i) := by simp [List.getD_eq_getElem?_getD, hi]
    rw [hgd]
    have htl : ((Z i).take (L i)).length = L i := by simp; omega
    refine ⟨_, h1, A i, C i, by rw [htl], by omega, fun x hx => h5 x (List.mem_of_mem_take hx), fun q hq => ?_⟩
    rw [htl] at hq
    cases hA : A i with
    | none => have := h6 hA; omega
    | some a' =>
      obtain ⟨hbase, hcells⟩ := h7 a' hA
      obtain ⟨b', off', spot'⟩ := a'
      have hs2 : spot' = none := by simpa [Addr.add] using World.cell?_spot (hcells 0 (by omega))
      subst hs2
      refine ⟨b', off', rfl, World.block_lt_of_cell? w _ (by simpa using hcells 0 (by omega)), fun c hc => ?_⟩
      rw [htl] at hc
      rw [take_getD hc]
      have hh := hcells c (by omega)
      rw [Addr.add_lit] at hh
      exact hh
end Go.Proofs.YtpcabkdkdnchaaaGreat
set_option linter.unusedSimpArgs false
set_option linter.unusedVariables false
set_option linter.unusedSectionVars false
namespace Go.Proofs.YtpcabkdkdnchaaaGreat
open Go.RowKit
def At (rd : Option Nat) : Fence := { Fence.wide with round := rd }
def calmO (o : Oper) : Bool := match o.op with | .defer _ => false | _ => true
def calmC : Code → Bool
  | .region _ ops _ => ops.toList.all calmO
  | .seq a b => calmC a && calmC b
  | .cond _ a b => calmC a && calmC b
  | .block _ c => calmC c
  | .loop c => calmC c
  | .scope c => calmC c
  | _ => true
section
variable {P : Program} {rd : Option Nat} {o : Oper} {a : Act} {w : World} {K : Act → World → Prop} {Q : Exit → Act → World → Prop} {ops : Array Oper} {n : Nat} {f : FuncId} {args : Array Value}
theorem calls_in {R : Ending → World → Prop} (h : Calls P f args w R) : CallsIn (At rd) n P f args w R := (callsIn_wide.2 h : CallsIn Fence.wide n P f args w R)
theorem calls_out {R : Ending → World → Prop} (h : CallsIn (At none) n P f args w R) : Calls P f args w R := (callsIn_wide (n := n)).1 h
theorem rows_in {row : String} {R : Value → World → Prop} (h : Rows P row args w R) : RowsIn (At rd) n P row args w R := fun c cs _ => by
  obtain ⟨v, w', r, s⟩ := h c cs
  exact ⟨v, w', r, stepsIn_wide.2 s⟩
theorem calm_sem {ρ : Operand → Value} (hc : rd ≠ none → calmO o = true) : Oper.semAt rd ρ o = execOp ρ o := by
  cases rd with
  | none => rfl
  | some l =>
    refine Oper.semAt_eq _ _ _ fun c e => ?_
    have := hc (by simp)
    unfold calmO at this
    rw [e] at this
    cases this
theorem oper_in (hc : rd ≠ none → calmO o = true) (h : o.wp P a w K Q) : o.wpIn (At rd) n P a w K Q := by
  refine ⟨fun _ _ => trivial, ?_⟩
  rw [show (At rd).round = rd from rfl, calm_sem hc]
  unfold Oper.wp at h
  generalize (execOp a.eval o).run P w = r at h ⊢
  cases r with
  | ok x w' =>
    cases x <;> simp only [Oper.upon] at h <;> simp only [Oper.uponIn]
    case value => exact h
    case skip => exact h
    case defer => exact h
    case enter => exact ⟨(fun e => by cases e), calls_in h⟩
    case row => exact ⟨(fun e => by cases e), rows_in h⟩
    all_goals exact h.elim
  | halt x w' => cases x <;> simp only [Oper.upon] at h <;> simp only [Oper.uponIn] <;> first | exact h | exact h.elim
def NoOut (Q : Exit → Act → World → Prop) : Prop := ∀ a w, ¬ Q .outgrown a w
theorem noOut_let (h : NoOut Q) : ¬ LetsOut Q := fun ⟨a, w, q⟩ => h a w q
theorem wpOp_in {i : Nat} (hc : rd ≠ none → (ops.toList.all calmO = true ∧ NoOut Q)) (hr : rd ≠ none) (h : wpOp P ops Q i K a w) : wpOpIn (At rd) n P ops Q i K a w := by
  unfold wpOp at h
  unfold wpOpIn
  cases ho : ops[i]? with
  | none => rw [ho] at h; exact h
  | some o =>
    simp only [ho] at h ⊢
    have hco : calmO o = true := List.all_eq_true.1 (hc hr).1 o (by
      obtain ⟨hl, he⟩ := Array.getElem?_eq_some_iff.1 ho
      rw [← he]; exact Array.getElem_mem_toList hl)
    split
    · rename_i hw
      simp only [hw, if_true] at h
      rcases h with h | ⟨_, h⟩
      · exact oper_in (fun _ => hco) h
      · exact (noOut_let (hc hr).2 h).elim
    · rename_i hw
      simp only [hw] at h
      exact ⟨fun _ _ => trivial, h⟩
theorem wpAny_in (hc : rd ≠ none → (ops.toList.all calmO = true ∧ NoOut Q)) (hr : rd ≠ none) {md : Region.Mode} : ∀ (fuel : Nat) (listed : Array Bool) (a : Act) (w : World), wpAny P md ops Q fuel listed a w → wpAnyIn (At rd) n P md ops Q fuel listed a w
  | 0, _, _, _, h => h
  | fuel + 1, _, _, _, h => ⟨h.1, fun i hi => wpOpIn_mono (fun a' w' h' => wpAny_in hc hr fuel _ a' w' h') (wpOp_in hc hr (h.2 i hi))⟩
theorem wp_in {c : Code} (h : c.wp P Q a w) : c.wpIn (At none) n P Q a w := wpIn_wide.2 h
theorem wp_out {c : Code} (h : c.wpIn (At none) n P Q a w) : c.wp P Q a w := (wpIn_wide (n := n)).1 h
theorem draw_in {id : Nat} (hm : P.follows .mixedOrders = true) (hc : rd ≠ none → (ops.toList.all calmO = true ∧ NoOut Q)) (h : wpAny P .any ops Q ops.size (Array.replicate ops.size false) a w.drew) : (Code.region id ops true).wpIn (At rd) n P Q a w := by
  cases rd with
  | none => exact wp_in (wp_region_any hm h)
  | some r => exact wpIn_region_any hm (wpAny_in hc (by simp) _ _ _ _ h)
end
end Go.Proofs.YtpcabkdkdnchaaaGreat
