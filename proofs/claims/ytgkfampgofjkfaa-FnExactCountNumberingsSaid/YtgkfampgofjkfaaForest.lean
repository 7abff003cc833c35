
/- Elements that lead to smaller ones of their class: the least one of a class, and what joining does to it. | The program's joining of classes. -/
import Derived.Test.YtgkfampgofjkfaaIdx
set_option linter.unusedSimpArgs false
set_option linter.unusedVariables false
set_option linter.unusedSectionVars false
namespace Go.Proofs.Ytgkfampgofjkfaa
open Go.RowKit

def up (l : List Int) (x : Nat) : Nat := (l.getD x 0).toNat
def InvL (l : List Int) : Prop := ∀ x, x < l.length → 0 ≤ l.getD x 0 ∧ l.getD x 0 ≤ x
def rootF (l : List Int) : Nat → Nat → Nat
  | 0, x => x
  | f + 1, x => if up l x = x then x else rootF l f (up l x)
def rt (l : List Int) (x : Nat) : Nat := rootF l x x

theorem getD_out {l : List Int} {x : Nat} (h : l.length ≤ x) : l.getD x 0 = 0 := by
  rw [List.getD_eq_getElem?_getD, List.getElem?_eq_none h]; rfl

theorem up_le {l : List Int} (h : InvL l) (x : Nat) : up l x ≤ x := by
  unfold up
  by_cases hx : x < l.length
  · have := h x hx; omega
  · rw [getD_out (by omega)]; omega

theorem up_int {l : List Int} (h : InvL l) {x : Nat} (hx : x < l.length) : l.getD x 0 = (up l x : Int) := by
  unfold up
  have := h x hx
  omega

theorem rootF_fuel {l : List Int} (h : InvL l) : ∀ x f, x ≤ f → rootF l f x = rt l x := by
  intro x
  induction x using Nat.strongRecOn with
  | _ x ih =>
    intro f hf
    cases f with
    | zero =>
      obtain rfl : x = 0 := by omega
      rfl
    | succ f =>
      have hu := up_le h x
      unfold rt
      cases x with
      | zero =>
        have : up l 0 = 0 := by omega
        simp [rootF, this]
      | succ m =>
        simp only [rootF]
        by_cases he : up l (m + 1) = m + 1
        · rw [if_pos he, if_pos he]
        · rw [if_neg he, if_neg he, ih _ (by omega) f (by omega), ih _ (by omega) m (by omega)]

theorem rt_eq {l : List Int} (h : InvL l) (x : Nat) : rt l x = if up l x = x then x else rt l (up l x) := by
  have hu := up_le h x
  have h1 : rt l x = rootF l (x + 1) x := (rootF_fuel h x (x + 1) (by omega)).symm
  rw [h1]
  simp only [rootF]
  by_cases he : up l x = x
  · rw [if_pos he, if_pos he]
  · rw [if_neg he, if_neg he, rootF_fuel h _ x hu]

theorem rt_root {l : List Int} (h : InvL l) : ∀ x, up l (rt l x) = rt l x ∧ rt l x ≤ x := by
  intro x
  induction x using Nat.strongRecOn with
  | _ x ih =>
    have hu := up_le h x
    rw [rt_eq h x]
    by_cases he : up l x = x
    · rw [if_pos he]; exact ⟨he, Nat.le_refl _⟩
    · rw [if_neg he]
      have := ih (up l x) (by omega)
      exact ⟨this.1, by omega⟩

theorem rt_self {l : List Int} (h : InvL l) {x : Nat} (he : up l x = x) : rt l x = x := by rw [rt_eq h x, if_pos he]

theorem getD_set (l : List Int) (x : Nat) (z : Int) (y : Nat) (hx : x < l.length) : (l.set x z).getD y 0 = if y = x then z else l.getD y 0 := by
  simp only [List.getD_eq_getElem?_getD, List.getElem?_set]
  by_cases h : x = y
  · subst h; simp [hx]
  · rw [if_neg h, if_neg (fun e => h e.symm)]

theorem up_set (l : List Int) (x z y : Nat) (hx : x < l.length) : up (l.set x (z : Int)) y = if y = x then z else up l y := by
  unfold up
  rw [getD_set l x z y hx]
  split <;> simp

theorem inv_set {l : List Int} (h : InvL l) {x z : Nat} (hx : x < l.length) (hz : z ≤ x) : InvL (l.set x (z : Int)) := by
  intro y hy
  rw [getD_set l x z y hx]
  simp only [List.length_set] at hy
  split
  · subst_vars; omega
  · exact h y hy

theorem rt_halve {l : List Int} (h : InvL l) {x : Nat} (hx : x < l.length) : ∀ i, rt (l.set x (up l (up l x) : Nat)) i = rt l i := by
  have hux := up_le h x
  have huy := up_le h (up l x)
  have h' : InvL (l.set x ((up l (up l x) : Nat) : Int)) := inv_set h hx (by omega)
  intro i
  induction i using Nat.strongRecOn with
  | _ i ih =>
    have hui := up_le h i
    rw [rt_eq h' i, rt_eq h i, up_set l x _ i hx]
    by_cases hi : i = x
    · subst hi
      rw [if_pos rfl]
      by_cases hy : up l i = i
      · simp [hy]
      · rw [if_neg hy, if_neg (by omega), ih _ (by omega), rt_eq h (up l i)]
        by_cases hz : up l (up l i) = up l i
        · rw [if_pos hz, hz, rt_self h hz]
        · rw [if_neg hz]
    · rw [if_neg hi]
      by_cases hy : up l i = i
      · rw [if_pos hy, if_pos hy]
      · rw [if_neg hy, if_neg hy, ih _ (by omega)]

theorem rt_link {l : List Int} (h : InvL l) {m n : Nat} (hm : m < l.length) (hn : n ≤ m) (rm : up l m = m) (rn : up l n = n) :
    ∀ i, rt (l.set m (n : Int)) i = if rt l i = m then n else rt l i := by
  have h' : InvL (l.set m (n : Int)) := inv_set h hm hn
  intro i
  induction i using Nat.strongRecOn with
  | _ i ih =>
    have hui := up_le h i
    rw [rt_eq h' i, up_set l m n i hm]
    by_cases hi : i = m
    · subst hi
      rw [if_pos rfl, rt_self h rm, if_pos rfl]
      by_cases he : n = i
      · rw [if_pos he, he]
      · rw [if_neg he, rt_eq h' n, up_set l i n n hm, if_neg he, if_pos rn]
    · rw [if_neg hi]
      by_cases hy : up l i = i
      · rw [if_pos hy, rt_self h hy, if_neg hi]
      · rw [if_neg hy, ih _ (by omega), rt_eq h i, if_neg hy]

def Rts (l : List Int) : List Int := (List.range l.length).map fun (i : Nat) => (rt l i : Int)
theorem Rts_len (l : List Int) : (Rts l).length = l.length := by simp [Rts]
theorem Rts_getD {l : List Int} {i : Nat} (hi : i < l.length) : (Rts l).getD i 0 = (rt l i : Int) := by
  simp [Rts, List.getD_eq_getElem?_getD, hi]

/-- What joining two elements does to the least ones. -/
def mergeR (R : List Int) (a b : Int) : List Int := R.map fun z => if z = max a b then min a b else z

theorem Rts_link {l : List Int} (h : InvL l) {m n : Nat} (hm : m < l.length) (hn : n ≤ m) (rm : up l m = m) (rn : up l n = n) :
    Rts (l.set m (n : Int)) = mergeR (Rts l) n m := by
  unfold Rts mergeR
  rw [List.length_set, List.map_map]
  refine List.map_congr_left fun i _ => ?_
  simp only [Function.comp]
  rw [rt_link h hm hn rm rn]
  have h1 : max (n : Int) (m : Int) = m := by omega
  have h2 : min (n : Int) (m : Int) = n := by omega
  rw [h1, h2]
  by_cases he : rt l i = m
  · rw [if_pos he, if_pos (by omega)]
  · rw [if_neg he, if_neg (by omega)]

theorem Rts_same {l l' : List Int} (hl : l'.length = l.length) (h : ∀ i, rt l' i = rt l i) : Rts l' = Rts l := by
  unfold Rts; rw [hl]; exact List.map_congr_left fun i _ => by rw [h i]

theorem inv_upTo (n : Nat) : InvL (upTo 0 n) := by
  intro x hx
  rw [upTo_length] at hx
  rw [upTo_getD 0 n x hx]
  omega

theorem Rts_upTo (n : Nat) : Rts (upTo 0 n) = upTo 0 n := by
  unfold Rts
  rw [upTo_length]
  conv => rhs; unfold upTo
  refine List.map_congr_left fun i hi => ?_
  have hi' : i < n := by simpa using hi
  rw [rt_self (inv_upTo n) (by unfold up; rw [upTo_getD 0 n i hi']; omega)]
  omega

end Go.Proofs.Ytgkfampgofjkfaa

namespace Go.Proofs.Ytgkfampgofjkfaa
open Go.RowKit

set_option maxHeartbeats 800000 in
set_option maxRecDepth 100000 in
theorem leader_any (w : World) (base : Nat) (v : Value) (l : List Int) (x : Nat) (h : Sl w base v l) (hI : InvL l) (hx : x < l.length) :
    Calls Try.prog 89 #[v, .int .i64 x] w (fun e w' => ∃ l', e = .returned (.int .i64 (rt l x)) ∧ Sl w' base v l' ∧ InvL l' ∧ l'.length = l.length ∧ (∀ i, rt l' i = rt l i) ∧ w.grownBy w' v.ownBlock) := by
  have hl := h.2
  obtain ⟨a, cap, rfl, hf⟩ := sl_form h
  obtain ⟨g, rfl⟩ := hf x hx
  clear hf
  have H := Lib.hid h; have HI := Lib.hid hI; clear h hI
  go_enter Try.func89, Try.ntmps89
  go_wp2
  go_loopw [1] (fun c wr => ∃ (k : Nat) (m : List Int), k ≤ x ∧ c = .int .i64 k ∧ Sl wr base (.slice (some ⟨g, 0, none⟩) l.length cap) m ∧ Hid (InvL m) ∧ Hid (m.length = l.length) ∧ Hid (∀ i, rt m i = rt l i) ∧ Hid (rt l k = rt l x) ∧ w.grownBy wr (some g)) (fun c _ => (intOf c).toNat)
  case atStart => exact ⟨x, l, Nat.le_refl _, rfl, H.out, HI.out, rfl, fun _ => rfl, rfl, grown_refl _ _⟩
  case round =>
    obtain ⟨k, m, hk, rfl, hs, hI, hml, hrt, hkx, hgr⟩ := hrel
    have hkl : k < m.length := by rw [hml.out]; omega
    have hu := up_le hI.out k
    have hu2 := up_le hI.out (up m k)
    have hml1 := Nat.le_of_eq hml.out
    have hml2 := Nat.le_of_eq hml.out.symm
    have c1 := sl_cell hs (j := k) hkl
    have c2 := sl_cell hs (j := up m k) (by omega)
    rw [up_int hI.out hkl] at c1
    rw [up_int hI.out (by omega)] at c2
    have c3 := sl_frozen hs k
    have hset := sl_set hs k (up m (up m k) : Nat)
    have hset2 := sl_cell hset.1 (j := k) (by simp; omega)
    rw [getD_set m k _ k hkl, if_pos rfl] at hset2
    have hinv2 : InvL (m.set k (up m (up m k) : Nat)) := inv_set hI.out hkl (by omega)
    have hh := rt_halve hI.out hkl
    by_cases hroot : up m k = k
    · have hfin : rt l x = k := by rw [← hkx.out, ← hrt.out k, rt_self hI.out hroot]
      have HF := Lib.hid hfin; clear hfin hset hset2 hinv2 hh c2
      rw [hroot] at c1
      clear hroot hu hu2
      have ht : ((k : Int) != (k : Int)) = false := by simp
      go_wp2
      go_ret
      exact ⟨m, ret_i (a := (k : Int)) (by rw [HF.out]), hs, hI.out, hml.out, hrt.out, hgr⟩
    · obtain ⟨y, hy⟩ : ∃ y, y = up m k := ⟨_, rfl⟩
      rw [← hy] at c1 c2 hset hset2 hinv2 hh hu hu2 hroot
      obtain ⟨z, hz⟩ : ∃ z, z = up m y := ⟨_, rfl⟩
      rw [← hz] at c2 hset hset2 hinv2 hh hu2
      have hrk : rt l z = rt l x := by
        rw [← hkx.out, ← hrt.out k, ← hrt.out z, rt_eq hI.out k, ← hy, if_neg hroot, rt_eq hI.out y, ← hz]
        by_cases he : z = y
        · rw [if_pos he]; subst he; exact rt_self hI.out hz.symm
        · rw [if_neg he]
      have HRK := Lib.hid hrk; have HSET := Lib.hid hset; have HH := Lib.hid hh; have HV := Lib.hid hinv2; have HZ := Lib.hid hz; have HY := Lib.hid hy
      clear hrk hset hh hinv2 hz hy
      have ht : ((y : Int) != (k : Int)) = true := by rw [bne_iff_ne]; omega
      have hlt : z < k := by omega
      clear hroot hs
      go_wp2
      go_roundw
      case rel => exact ⟨z, m.set k (z : Int), by omega, rfl, HSET.out.1, HV.out, by simpa [Hid] using hml.out, fun i => by rw [HH.out i]; exact hrt.out i, HRK.out, grown_trans hgr HSET.out.2⟩
      case measure => simp [intOf]; omega

/-- The leaders' table: it reads in some way that tells R. -/
def Lead (w : World) (base : Nat) (v : Value) (R : List Int) : Prop := ∃ l, Sl w base v l ∧ InvL l ∧ Rts l = R

theorem Lead.len {w : World} {base : Nat} {v : Value} {R : List Int} (h : Lead w base v R) : R.length ≤ 17592186044415 := by
  obtain ⟨l, hs, _, rfl⟩ := h
  rw [Rts_len]; exact hs.2

theorem lead_below {w w' : World} {base : Nat} {v : Value} {R : List Int} (hb : Below w.heap.size w w') (h : Lead w base v R) : Lead w' base v R := by
  obtain ⟨l, hs, r⟩ := h
  exact ⟨l, sl_below hb hs, r⟩

theorem lead_lt {w : World} {base : Nat} {v : Value} {R : List Int} (h : Lead w base v R) : ∀ k, v.ownBlock = some k → base ≤ k ∧ k < w.heap.size := by
  obtain ⟨l, hs, _⟩ := h
  exact hs.1.lt

set_option maxHeartbeats 800000 in
set_option maxRecDepth 100000 in
theorem join_any (w : World) (base : Nat) (v : Value) (R : List Int) (x y : Nat) (h : Lead w base v R) (hx : x < R.length) (hy : y < R.length) :
    Calls Try.prog 64 #[v, .int .i64 x, .int .i64 y] w (fun e w' => e = .returned (.tuple #[]) ∧ Lead w' base v (mergeR R (R.getD x 0) (R.getD y 0)) ∧ w.grownBy w' v.ownBlock) := by
  obtain ⟨l, hs, hI, rfl⟩ := h
  rw [Rts_len] at hx hy
  rw [Rts_getD hx, Rts_getD hy]
  obtain ⟨p, hp⟩ : ∃ p, p = rt l x := ⟨_, rfl⟩
  obtain ⟨q, hq⟩ : ∃ q, q = rt l y := ⟨_, rfl⟩
  rw [← hp, ← hq]
  have HP := Lib.hid hp; have HQ := Lib.hid hq; clear hp hq
  have hl := hs.2
  obtain ⟨a, cap, rfl, hf⟩ := sl_form hs
  obtain ⟨g, rfl⟩ := hf x hx
  clear hf
  have H := Lib.hid hs; have HI := Lib.hid hI; clear hs hI
  go_enter Try.func64, Try.ntmps64
  go_wp2_with fail
  refine (leader_any _ base _ l x H.out HI.out hx).mono ?_
  rintro e w1 ⟨l1, rfl, hs1, hI1, hl1, hr1, hg1⟩
  rw [← HP.out]
  have HS1 := Lib.hid hs1; have HI1 := Lib.hid hI1; have HL1 := Lib.hid hl1; have HR1 := Lib.hid hr1
  clear hs1 hI1 hl1 hr1
  go_wp2_with fail
  refine (leader_any _ base _ l1 y HS1.out HI1.out (by rw [HL1.out]; exact hy)).mono ?_
  rintro e w2 ⟨l2, rfl, hs2, hI2, hl2, hr2, hg2⟩
  rw [HR1.out y, ← HQ.out]
  have hlen : l2.length = l.length := hl2.trans HL1.out
  have hrt : ∀ i, rt l2 i = rt l i := fun i => (hr2 i).trans (HR1.out i)
  have rx := rt_root HI.out x
  have ry := rt_root HI.out y
  have rx2 := rt_root hI2 x
  have ry2 := rt_root hI2 y
  rw [hrt] at rx2 ry2
  have hRts : Rts l2 = Rts l := Rts_same hlen hrt
  rw [← HP.out] at rx2 rx
  rw [← HQ.out] at ry2 ry
  have hgr := grown_trans hg1 hg2
  have hpl : p < l2.length := by rw [hlen]; omega
  have hql : q < l2.length := by rw [hlen]; omega
  have hpl' : p < l.length := by omega
  have hql' : q < l.length := by omega
  rcases Nat.lt_trichotomy p q with hpq | hpq | hpq
  · have c3 := sl_cell hs2 (j := q) hql
    have c4 := sl_frozen hs2 q
    have hset := sl_set hs2 q (p : Int)
    have hfin : Lead (w2.setCell ⟨g, q, none⟩ (.int .i64 (p : Int))) base (.slice (some ⟨g, 0, none⟩) l.length cap) (mergeR (Rts l) p q) := by
      refine ⟨_, hset.1, inv_set hI2 hql (by omega), ?_⟩
      rw [← hRts, Rts_link hI2 hql (by omega) ry2.1 rx2.1]
    have HFIN := Lib.hid hfin; have HG := Lib.hid (grown_trans hgr hset.2)
    clear hfin hset hRts hrt hlen rx ry rx2 ry2 hgr hs2 hI2 hr2 hl2 hg1 hg2
    generalize l2.getD q 0 = z at c3
    have i1 : (p : Int) < (q : Int) := by omega
    have i2 : ¬ (q : Int) < (p : Int) := by omega
    go_wp2
    go_end0
    exact ⟨rfl, HFIN.out, HG.out⟩
  · subst hpq
    have c3 := sl_cell hs2 (j := p) hpl
    have c4 := sl_frozen hs2 p
    have hset := sl_set hs2 p (p : Int)
    have hfin : Lead (w2.setCell ⟨g, p, none⟩ (.int .i64 (p : Int))) base (.slice (some ⟨g, 0, none⟩) l.length cap) (mergeR (Rts l) p p) := by
      refine ⟨_, hset.1, inv_set hI2 hpl (by omega), ?_⟩
      rw [← hRts, Rts_link hI2 hpl (by omega) rx2.1 rx2.1]
    have HFIN := Lib.hid hfin; have HG := Lib.hid (grown_trans hgr hset.2)
    clear hfin hset hRts hrt hlen rx ry rx2 ry2 hgr hs2 hI2 hr2 hl2 hg1 hg2
    generalize l2.getD p 0 = z at c3
    have i2 : ¬ (p : Int) < (p : Int) := by omega
    go_wp2
    go_end0
    exact ⟨rfl, HFIN.out, HG.out⟩
  · have c3 := sl_cell hs2 (j := p) hpl
    have c4 := sl_frozen hs2 p
    have hset := sl_set hs2 p (q : Int)
    have hfin : Lead (w2.setCell ⟨g, p, none⟩ (.int .i64 (q : Int))) base (.slice (some ⟨g, 0, none⟩) l.length cap) (mergeR (Rts l) p q) := by
      refine ⟨_, hset.1, inv_set hI2 hpl (by omega), ?_⟩
      rw [← hRts, Rts_link hI2 hpl (by omega) rx2.1 ry2.1]
      unfold mergeR
      rw [Int.max_comm, Int.min_comm]
    have HFIN := Lib.hid hfin; have HG := Lib.hid (grown_trans hgr hset.2)
    clear hfin hset hRts hrt hlen rx ry rx2 ry2 hgr hs2 hI2 hr2 hl2 hg1 hg2
    generalize l2.getD p 0 = z at c3
    have i1 : (q : Int) < (p : Int) := by omega
    have i2 : ¬ (p : Int) < (q : Int) := by omega
    go_wp2
    go_end0
    exact ⟨rfl, HFIN.out, HG.out⟩

theorem filled_set {n k : Nat} (hk : k < n) : (upTo 0 k ++ List.replicate (n - k) 0).set k (k : Int) = upTo 0 (k + 1) ++ List.replicate (n - (k + 1)) 0 := by
  have hl : (upTo 0 k).length = k := upTo_length _ _
  rw [List.set_append, if_neg (by omega), hl, Nat.sub_self, upTo_succ]
  obtain ⟨m, hm⟩ : ∃ m, n - k = m + 1 := ⟨n - k - 1, by omega⟩
  have hm' : n - (k + 1) = m := by omega
  rw [hm, hm', List.replicate_succ]
  simp

set_option maxHeartbeats 800000 in
set_option maxRecDepth 100000 in
theorem counting_any (w : World) (n : Nat) (hn : n ≤ 17592186044415) :
    Calls Try.prog 88 #[.int .i64 n] w (fun e w' => ∃ g, e = .returned (.slice (some ⟨g, 0, none⟩) n n) ∧ Sl w' w.heap.size (.slice (some ⟨g, 0, none⟩) n n) (upTo 0 n) ∧ Below w.heap.size w w') := by
  go_enter Try.func88, Try.ntmps88
  go_wp2_with (at_make; refine wp_make64 rfl _ _ _ rfl Try.underlying22 .i64 .i64 _ _ n rfl rfl rfl rfl hn ?_; intro w1 hs1 hb1 hz1)
  have HS := Lib.hid hs1; clear hs1
  go_loopw [9] (fun i wr => ∃ k : Nat, k ≤ n ∧ i = .int .i64 k ∧ Sl wr w.heap.size (.slice (some ⟨w.heap.size, 0, none⟩) n n) (upTo 0 k ++ List.replicate (n - k) 0) ∧ Below w.heap.size w wr) (fun i _ => n - (intOf i).toNat)
  case atStart => exact ⟨0, Nat.zero_le _, rfl, by simpa [upTo] using HS.out, hb1⟩
  case round =>
    obtain ⟨k, hk, rfl, hs, hbel⟩ := hrel
    by_cases hlt : k < n
    · have c2 := sl_cell hs (j := k) (by simp [upTo_length]; omega)
      have c3 := sl_frozen hs k
      have hset := sl_set hs k (k : Int)
      rw [filled_set hlt] at hset
      have HSET := Lib.hid hset; clear hset hs
      generalize (upTo 0 k ++ List.replicate (n - k) 0).getD k 0 = z at c2
      go_wp2
      go_roundw
      case rel => exact ⟨k + 1, by omega, by go_num, HSET.out.1, hbel.setCell (by simp) _⟩
      case measure => simp [intOf]; omega
    · obtain rfl : k = n := by omega
      have HS2 := Lib.hid hs; clear hs
      go_wp2
      go_ret
      exact ⟨_, rfl, by simpa using HS2.out, hbel⟩

set_option maxHeartbeats 800000 in
set_option maxRecDepth 100000 in
theorem newLeaders_any (w : World) (n : Nat) (hn : n ≤ 17592186044415) :
    Calls Try.prog 57 #[.int .i64 n] w (fun e w' => ∃ g, e = .returned (.slice (some ⟨g, 0, none⟩) n n) ∧ Lead w' w.heap.size (.slice (some ⟨g, 0, none⟩) n n) (upTo 0 n) ∧ Below w.heap.size w w') := by
  go_enter Try.func57, Try.ntmps57
  go_wp2_with fail
  refine (counting_any _ n hn).mono ?_; rintro e w2 ⟨gl, rfl, hs0, hb2⟩
  have HS2 := Lib.hid hs0; clear hs0
  go_wp2
  go_ret
  exact ⟨_, rfl, ⟨upTo 0 n, by simpa using HS2.out, inv_upTo n, Rts_upTo n⟩, hb2⟩

theorem lab_fill {R : List Int} {k : Nat} (hk : k < R.length) :
    (R.take k ++ List.replicate (R.length - k) 0).set k (R.getD k 0) = R.take (k + 1) ++ List.replicate (R.length - (k + 1)) 0 := set_fill hk

set_option maxHeartbeats 800000 in
set_option maxRecDepth 100000 in
theorem classes_any (w : World) (base : Nat) (v : Value) (R : List Int) (h : Lead w base v R) :
    Calls Try.prog 59 #[v] w (fun e w' => ∃ y, e = .returned y ∧ Sl w' w.heap.size y (clsOf R) ∧ (∀ B : World, Below B.heap.size B w → B.heap.size ≤ base → Below B.heap.size B w')) := by
  have hRl := h.len
  obtain ⟨l0, hs0, hI0, hR0⟩ := h
  have hll : l0.length = R.length := by rw [← hR0, Rts_len]
  have hwf : ∀ x ∈ R, (Lit.int .i64 x).wf = true := fun x hx => by
    rw [← hR0] at hx
    simp only [Rts, List.mem_map, List.mem_range] at hx
    obtain ⟨i, hi, rfl⟩ := hx
    have := (rt_root hI0 i).2
    exact WalkArith.wf_i64 (by omega)
  have HWF := Lib.hid hwf; clear hwf
  obtain ⟨a, cap, rfl, hf⟩ := sl_form hs0
  have HF := Lib.hid hf; clear hf
  have hlt0 := hs0.1.lt
  have HLT := Lib.hid hlt0; clear hlt0
  have H0 := Lib.hid hs0; clear hs0
  rw [hll] at H0 HF HLT
  rw [hll]
  have HRL := Lib.hid hll; have HR0 := Lib.hid hR0; have HI0 := Lib.hid hI0; clear hll hR0 hI0
  go_enter Try.func59, Try.ntmps59
  go_wp2_with (at_make; refine wp_make64 rfl _ _ _ rfl Try.underlying22 .i64 .i64 _ _ R.length rfl rfl rfl rfl hRl ?_; intro w1 hs1 hb1 hz1)
  have L1 : Hid (Lead w1 base (.slice a R.length cap) R) := ⟨l0, sl_below hb1 H0.out, HI0.out, HR0.out⟩
  have HS1 := Lib.hid hs1
  have hap1 : Apart (.slice a R.length cap) (.slice (some ⟨w.heap.size, 0, none⟩) R.length R.length) := apart_of H0.out hs1
  have HAP := Lib.hid hap1; clear hap1 hs1
  have hgr0 : w.grownBy w1 (Value.slice a R.length cap).ownBlock := ⟨hb1.os, hb1.tape, hb1.output, hb1.size, fun i hi _ => hb1.block i hi⟩
  have HGR0 := Lib.hid hgr0; clear hgr0
  go_loopw [10] (fun i wr => ∃ k : Nat, k ≤ R.length ∧ i = .int .i64 k ∧ Lead wr base (.slice a R.length cap) R ∧ Sl wr w.heap.size (.slice (some ⟨w.heap.size, 0, none⟩) R.length R.length) (R.take k ++ List.replicate (R.length - k) 0) ∧ Hid (w.grownBy wr (Value.slice a R.length cap).ownBlock)) (fun i _ => R.length - (intOf i).toNat)
  case atStart => exact ⟨0, Nat.zero_le _, rfl, L1.out, by simpa using HS1.out, HGR0⟩
  case round =>
    obtain ⟨k, hk, rfl, hlead, hs, hgr⟩ := hrel
    by_cases hlt : k < R.length
    · obtain ⟨l, hl1, hl2, hl3⟩ := hlead
      have hll : l.length = R.length := by rw [← hl3, Rts_len]
      have hgd : (R.getD k 0) = (rt l k : Int) := by rw [← hl3, Rts_getD (by rw [hll]; exact hlt)]
      have HGD := Lib.hid hgd; have HL2 := Lib.hid hl2; have HL3 := Lib.hid hl3; have HL1 := Lib.hid hl1; have HLL := Lib.hid hll
      clear hgd hl2 hl3 hl1 hll
      go_wp2_with fail
      refine (leader_any _ base _ l k HL1.out HL2.out (by rw [HLL.out]; exact hlt)).mono ?_
      rintro e w2 ⟨l2, rfl, hs2, hI2, hl2, hr2, hg2⟩
      rw [← HGD.out]
      have hlead2 : Lead w2 base (.slice a R.length cap) R := ⟨l2, hs2, hI2, (Rts_same hl2 hr2).trans HL3.out⟩
      have hlab := sl_kept hs hg2 (apart_ne HAP.out.symm)
      have hgr2 := grown_trans hgr.out hg2
      clear hs hs2 hI2 hl2 hr2 hg2
      have c3 := sl_cell hlab (j := k) (by simp; omega)
      have c4 := sl_frozen hlab k
      have hset := sl_set hlab k (R.getD k 0)
      rw [lab_fill hlt] at hset
      have HLEAD : Hid (Lead (w2.setCell ⟨w.heap.size, k, none⟩ (.int .i64 (R.getD k 0))) base (.slice a R.length cap) R) := by
        obtain ⟨l3, h1, h2⟩ := hlead2
        exact ⟨l3, sl_kept h1 hset.2 (apart_ne (u := .slice (some ⟨w.heap.size, 0, none⟩) R.length R.length) HAP.out), h2⟩
      have HG3 : Hid (w.grownBy (w2.setCell ⟨w.heap.size, k, none⟩ (.int .i64 (R.getD k 0))) (Value.slice a R.length cap).ownBlock) := by
        refine ⟨hgr2.os, hgr2.tape, hgr2.output, by simpa using hgr2.size, fun i hi hne => ?_⟩
        rw [Below.heap_setCell _ _ _ _ (by simp; omega)]
        exact hgr2.block i hi hne
      have HSET := Lib.hid hset; clear hset hlab hlead2 hgr2
      generalize (R.take k ++ List.replicate (R.length - k) 0).getD k 0 = z at c3
      generalize R.getD k 0 = x at HSET HLEAD HG3
      go_wp2
      go_roundw
      case rel => exact ⟨k + 1, by omega, by go_num, HLEAD.out, HSET.out.1, HG3⟩
      case measure => simp [intOf]; omega
    · obtain rfl : k = R.length := by omega
      have hs' : Sl wr w.heap.size (.slice (some ⟨w.heap.size, 0, none⟩) R.length R.length) R := by simpa using hs
      clear hs
      go_wp2_with fail
      refine (partBy_any _ _ _ hs'.rd HWF.out).mono ?_; rintro e w3 ⟨y, rfl, hs3, hb3⟩
      go_wp2
      go_ret
      have hsz := hgr.out.size
      refine ⟨_, rfl, hs3.mono hsz, fun B hB hbb => ?_⟩
      have hB2 : Below B.heap.size B wr := hB.grown hgr.out hB.size fun k hk => Nat.le_trans hbb (HLT.out k hk).1
      exact hB2.trans (hb3.mono hB2.size)

end Go.Proofs.Ytgkfampgofjkfaa
