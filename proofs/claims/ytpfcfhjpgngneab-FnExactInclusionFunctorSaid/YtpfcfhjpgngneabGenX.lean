
/- The least subcategory that holds some arrows: sorted lists, what it is, the model's and the program's. -/
import Derived.Lib.SlicesCompact
import Derived.Test.YtpfcfhjpgngneabShort
import Derived.Test.YtpfcfhjpgngneabMap
import Derived.Test.YtpfcfhjpgngneabBase
import Derived.Test.YtpfcfhjpgngneabShelf
import Derived.Test.YtpfcfhjpgngneabHomL
import Derived.Test.YtpfcfhjpgngneabTab
import Derived.Test.YtpfcfhjpgngneabRul7
import Derived.Test.YtpfcfhjpgngneabCong
import Derived.Test.YtpfcfhjpgngneabComp
import Derived.Test.YtpfcfhjpgngneabClo
import Derived.Test.YtpfcfhjpgngneabClo2
import Derived.Test.YtpfcfhjpgngneabFirst
set_option linter.unusedSimpArgs false
set_option linter.unusedVariables false
set_option linter.unusedSectionVars false
namespace Go.Proofs.Ytpfcfhjpgngneab
open Go.RowKit
section
theorem asc_ext : ∀ (l1 l2 : List Int), l1.Pairwise (· < ·) → l2.Pairwise (· < ·) → (∀ x, x ∈ l1 ↔ x ∈ l2) → l1 = l2
  | [], [], _, _, _ => rfl
  | [], b :: l2, _, _, h => absurd ((h b).2 (List.mem_cons_self ..)) (by simp)
  | a :: l1, [], _, _, h => absurd ((h a).1 (List.mem_cons_self ..)) (by simp)
  | a :: l1, b :: l2, h1, h2, h => by
    rw [List.pairwise_cons] at h1 h2
    have hab : a = b := by
      have ha := (h a).1 (List.mem_cons_self ..)
      have hb := (h b).2 (List.mem_cons_self ..)
      rcases List.mem_cons.1 ha with e | e
      · exact e
      · rcases List.mem_cons.1 hb with e2 | e2
        · exact e2.symm
        · have := h2.1 _ e
          have := h1.1 _ e2
          omega
    subst hab
    rw [asc_ext l1 l2 h1.2 h2.2 fun x => ?_]
    have := h x
    simp only [List.mem_cons] at this
    constructor
    · intro hx
      have hlt := h1.1 x hx
      rcases this.1 (.inr hx) with e | e
      · omega
      · exact e
    · intro hx
      have hlt := h2.1 x hx
      rcases this.2 (.inr hx) with e | e
      · omega
      · exact e

theorem compact_inv (d : Array Int) (hs : ∀ i j, i ≤ j → j < d.size → d[i]! ≤ d[j]!) : ∀ m, m ≤ d.size →
    (Lib.compactUpTo d m).Pairwise (· < ·) ∧ ∀ x, x ∈ Lib.compactUpTo d m ↔ ∃ j, j < m ∧ d[j]! = x := by
  intro m
  induction m with
  | zero => intro _; simp [Lib.compactUpTo]
  | succ m ih =>
    intro hm
    obtain ⟨h1, h2⟩ := ih (by omega)
    rw [Lib.compactUpTo_succ]
    by_cases hk : Lib.keeps d m = true
    · rw [if_pos hk]
      refine ⟨?_, fun x => ?_⟩
      · rw [List.pairwise_append]
        refine ⟨h1, by simp, fun a ha b hb => ?_⟩
        simp only [List.mem_singleton] at hb
        subst hb
        obtain ⟨j, hj, rfl⟩ := (h2 a).1 ha
        have hle := hs j (m - 1) (by omega) (by omega)
        have hle2 := hs (m - 1) m (by omega) (by omega)
        have hne : d[m]! ≠ d[m - 1]! := fun e => by
          have := Lib.keeps_neg (show 0 < m by omega) e
          rw [this] at hk
          cases hk
        omega
      · simp only [List.mem_append, List.mem_singleton, h2]
        constructor
        · rintro (⟨j, hj, e⟩ | e)
          · exact ⟨j, by omega, e⟩
          · exact ⟨m, by omega, e.symm⟩
        · rintro ⟨j, hj, e⟩
          by_cases hjm : j = m
          · subst hjm; exact .inr e.symm
          · exact .inl ⟨j, by omega, e⟩
    · have hkf : Lib.keeps d m = false := by simpa using hk
      rw [hkf]
      simp only [Bool.false_eq_true, if_false, List.append_nil]
      refine ⟨h1, fun x => (h2 x).trans ?_⟩
      constructor
      · rintro ⟨j, hj, e⟩; exact ⟨j, by omega, e⟩
      · rintro ⟨j, hj, e⟩
        by_cases hjm : j = m
        · subst hjm
          have hpos : 0 < j := by
            rcases Nat.eq_zero_or_pos j with h | h
            · subst h
              rw [Lib.keeps_lt_one d 0 (by omega)] at hkf
              cases hkf
            · exact h
          have heq : d[j]! = d[j - 1]! := Classical.byContradiction fun hne => by
            rw [Lib.keeps_pos hne] at hkf
            cases hkf
          exact ⟨j - 1, by omega, by rw [← heq]; exact e⟩
        · exact ⟨j, by omega, e⟩

/-- The images below n, ascending. -/
def imgL (n : Nat) (f : List Int) : List Int := (upTo 0 n).filter fun y => decide (y ∈ f)

theorem upTo_asc (n : Nat) : (upTo 0 n).Pairwise (· < ·) := by
  induction n with
  | zero => simp [upTo]
  | succ n ih =>
    have h : upTo 0 (n + 1) = upTo 0 n ++ [(n : Int)] := by simp [upTo, List.range_succ]
    rw [h, List.pairwise_append]
    refine ⟨ih, by simp, fun a ha b hb => ?_⟩
    simp only [upTo, List.mem_map, List.mem_range] at ha
    obtain ⟨j, hj, rfl⟩ := ha
    simp only [List.mem_singleton] at hb
    omega

theorem imgL_asc (n : Nat) (f : List Int) : (imgL n f).Pairwise (· < ·) := (upTo_asc n).filter _

theorem mem_imgL {n : Nat} {f : List Int} (h : AllP n f) (x : Int) : x ∈ imgL n f ↔ x ∈ f := by
  simp only [imgL, List.mem_filter, decide_eq_true_eq]
  constructor
  · exact fun h => h.2
  · intro hx
    have := h x hx
    refine ⟨?_, hx⟩
    simp only [upTo, List.mem_map, List.mem_range]
    exact ⟨x.toNat, by omega, by omega⟩

theorem sorted_get {l : List Int} (h : l.Pairwise (· ≤ ·)) : ∀ i j, i ≤ j → j < l.toArray.size → l.toArray[i]! ≤ l.toArray[j]! := by
  intro i j hij hj
  have hj' : j < l.length := by simpa using hj
  by_cases he : i = j
  · subst he; omega
  · have := List.pairwise_iff_getElem.1 h i j (by omega) hj' (by omega)
    simpa [getElem!_def, List.getElem?_eq_getElem hj', List.getElem?_eq_getElem (show i < l.length by omega)] using this

theorem sort_compact {n : Nat} {f : List Int} (h : AllP n f) : Lib.compact (f.mergeSort fun x y => decide (x ≤ y)) = imgL n f := by
  have hs : (f.mergeSort fun x y => decide (x ≤ y)).Pairwise (· ≤ ·) := by
    have := List.pairwise_mergeSort (le := fun x y : Int => decide (x ≤ y)) (fun a b c h1 h2 => by simp at *; omega) (fun a b => by simp; omega) f
    exact this.imp (by simp)
  have hi := compact_inv (f.mergeSort fun x y => decide (x ≤ y)).toArray (sorted_get hs) _ (Nat.le_refl _)
  refine asc_ext _ _ (by simpa [Lib.compact] using hi.1) (imgL_asc n f) fun x => ?_
  rw [mem_imgL h]
  have h2 := hi.2 x
  unfold Lib.compact
  have hsz : (f.mergeSort fun x y => decide (x ≤ y)).toArray.size = (f.mergeSort fun x y => decide (x ≤ y)).length := by simp
  rw [hsz] at h2
  rw [h2]
  constructor
  · rintro ⟨j, hj, rfl⟩
    have : (f.mergeSort fun x y => decide (x ≤ y)).toArray[j]! = (f.mergeSort fun x y => decide (x ≤ y))[j] := by simp [getElem!_def, List.getElem?_eq_getElem hj]
    rw [this]
    exact (List.mem_mergeSort).1 (List.getElem_mem hj)
  · intro hx
    obtain ⟨j, hj, he⟩ := List.getElem_of_mem ((List.mem_mergeSort (le := fun x y : Int => decide (x ≤ y))).2 hx)
    exact ⟨j, hj, by simp [getElem!_def, List.getElem?_eq_getElem hj, he]⟩
end

section
open Go.Sort Go.Lib

theorem holds_of {w : World} {base g n cap : Nat} {zs : List Int} (h : Sl w base (.slice (some ⟨g, 0, none⟩) n cap) zs) : Holds (Value.int .i64) w g 0 zs.toArray := fun j hj => by
  have hj' : j < zs.length := by simpa using hj
  refine ⟨?_, sl_frozen h _⟩
  have h1 := sl_cell h hj'
  rw [Nat.zero_add, h1]
  simp [getElem!_def, List.getD_eq_getElem?_getD, List.getElem?_eq_getElem hj']

/-- The row written over by another list of its length; new blocks; draws. -/
theorem sl_put {w : World} {base g cap : Nat} {zs ys : List Int} (h : Sl w base (.slice (some ⟨g, 0, none⟩) zs.length cap) zs) (hl : ys.length = zs.length) (q : Nat) (os : Array Obj) :
    Sl (grow (putRow (Value.int .i64) (Sort.ahead w q) g 0 ys.toArray) os) base (.slice (some ⟨g, 0, none⟩) zs.length cap) ys ∧ w.grownBy (grow (putRow (Value.int .i64) (Sort.ahead w q) g 0 ys.toArray) os) (some g) := by
  obtain ⟨⟨hlen, hor⟩, hb⟩ := h
  rcases hor with ⟨hv, _⟩ | ⟨g', cap', cur, hv, hbb, hg, hnc, hcm, hcs, ht⟩
  · simp at hv
  · simp only [Value.slice.injEq, Option.some.injEq, Addr.mk.injEq, true_and, and_true] at hv
    obtain ⟨rfl, rfl⟩ := hv
    have hgl : g < w.heap.size := (Array.getElem?_eq_some_iff.1 hg).1
    have hheap : (grow (putRow (Value.int .i64) (Sort.ahead w q) g 0 ys.toArray) os).heap[g]? = some (.cells (putCells (Value.int .i64) 0 ys.toArray cur) 2 (0, 0)) := by
      rw [heap_grow_old _ _ (by simpa using hgl)]
      show (w.heap.modify g (onCells (putCells (Value.int .i64) 0 ys.toArray)))[g]? = _
      rw [Array.getElem?_modify, if_pos rfl, hg]
      rfl
    refine ⟨⟨⟨by simp [hl], .inr ⟨g, cap, putCells (Value.int .i64) 0 ys.toArray cur, by rw [hl], hbb, hheap, by omega, hcm, by simp [putCells, hcs], ?_⟩⟩, by omega⟩, ⟨rfl, rfl, rfl, by simp, fun k hk hne => ?_⟩⟩
    · apply List.ext_getElem?
      intro i
      rw [List.getElem?_take]
      by_cases hi : i < ys.length
      · rw [if_pos (by omega)]
        have hc : i < cur.size := by omega
        simp [putCells, hc, hi, getElem!_def]
      · rw [if_neg (by omega), List.getElem?_eq_none (by simp; omega)]
    · rw [heap_grow_old _ _ (by simpa using hk)]
      show (w.heap.modify g (onCells (putCells (Value.int .i64) 0 ys.toArray)))[k]? = _
      rw [Array.getElem?_modify, if_neg (fun e => hne (by rw [e]))]

theorem sl_prefix {w : World} {base g n cap : Nat} {xs ys : List Int} (h : Sl w base (.slice (some ⟨g, 0, none⟩) n cap) (xs ++ ys)) : Sl w base (.slice (some ⟨g, 0, none⟩) xs.length cap) xs := by
  obtain ⟨⟨hlen, hor⟩, hb⟩ := h
  simp at hb
  rcases hor with ⟨hv, _⟩ | ⟨g', cap', cur, hv, hbb, hg, hnc, hcm, hcs, ht⟩
  · simp at hv
  · simp only [Value.slice.injEq, Option.some.injEq, Addr.mk.injEq, true_and, and_true] at hv
    obtain ⟨rfl, _, rfl⟩ := hv
    simp at hnc
    refine ⟨⟨by simp, .inr ⟨g, cap, cur, rfl, hbb, hg, by omega, hcm, hcs, ?_⟩⟩, by omega⟩
    have h2 := congrArg (List.take xs.length) ht
    rw [List.take_take] at h2
    simp at h2
    simpa using h2

theorem sort_any (w : World) (base : Nat) (v : Value) (zs : List Int) (h : Sl w base v zs) :
    Calls Try.prog 154 #[v] w (fun e w' => e = .returned (.tuple #[]) ∧ Sl w' base v (zs.mergeSort fun x y => decide (x ≤ y)) ∧ w.grownBy w' v.ownBlock) := by
  have hl := h.2
  obtain ⟨a, cap, rfl, hf⟩ := sl_form h
  by_cases h0 : zs.length = 0
  · obtain rfl : zs = [] := List.eq_nil_of_length_eq_zero h0
    refine (Try.slices_Sort_int_none a cap w).mono ?_
    rintro e w' ⟨rfl, rfl⟩
    exact ⟨rfl, by simpa using h, grown_refl _ _⟩
  · obtain ⟨g, rfl⟩ := hf 0 (by omega)
    refine (Try.slices_Sort_int g 0 cap zs w (holds_of h) (sl_lt h).2 (by omega)).mono ?_
    rintro e w' ⟨rfl, q, os, rfl⟩
    have hs := sl_put h (ys := zs.mergeSort fun x y => decide (x ≤ y)) (by simp) q os
    exact ⟨rfl, hs.1, hs.2⟩

theorem compact_len (zs : List Int) : (compact zs).length ≤ zs.length := by
  unfold compact compactUpTo
  rw [List.length_map]
  exact Nat.le_trans (List.length_filter_le _ _) (by simp)

end

section
/-- The arrows that a list generates. -/
inductive Gen (c : Cat) (xs : List Int) : Int → Prop
 | of {x : Int} : x ∈ xs → Gen c xs x
 | src {x : Int} : x ∈ xs → Gen c xs (at0 c.e (at0 c.s x))
 | tgt {x : Int} : x ∈ xs → Gen c xs (at0 c.e (at0 c.t x))
 | comp {f g : Int} : Gen c xs f → Gen c xs g → at0 c.t f = at0 c.s g → Gen c xs (c.th f g)
noncomputable def genL (c : Cat) (xs : List Int) (k : Nat) : List Int := filTo (fun f => Gen c xs (f : Int)) (fun f => (f : Int)) k
def Sound (c : Cat) (xs : List Int) (bs : List Bool) : Prop := ∀ f : Nat, atB bs (f : Int) = true → Gen c xs (f : Int)
def SeedA (c : Cat) (xs : List Int) (bs : List Bool) (j : Nat) : Prop := atB bs (at0 xs (j : Int)) = true ∧ atB bs (at0 c.e (at0 c.s (at0 xs (j : Int)))) = true ∧ atB bs (at0 c.e (at0 c.t (at0 xs (j : Int)))) = true
def Seeds (c : Cat) (xs : List Int) (bs : List Bool) (k : Nat) : Prop := ∀ j : Nat, j < k → SeedA c xs bs j
def ClosedAt (c : Cat) (bs : List Bool) (f g : Nat) : Prop := atB bs (f : Int) = true → atB bs (g : Int) = true → at0 c.t (f : Int) = at0 c.s (g : Int) → atB bs (c.th (f : Int) (g : Int)) = true
def ClosedTo (c : Cat) (bs : List Bool) (f g : Nat) : Prop := (∀ a b : Nat, a < f → b < c.s.length → ClosedAt c bs a b) ∧ ∀ b : Nat, b < g → ClosedAt c bs f b
def cntF (bs : List Bool) : Nat := (bs.filter fun b => !b).length
theorem atB_set {bs : List Bool} {x y : Int} (hx0 : 0 ≤ x) (hx : x < bs.length) (hy0 : 0 ≤ y) : atB (bs.set x.toNat true) y = if x = y then true else atB bs y := by
 unfold atB
 rw [List.getD_eq_getElem?_getD, List.getElem?_set]
 by_cases h : x = y
 ·subst h; rw [if_pos rfl, if_pos rfl, if_pos (by omega)]; rfl
 ·rw [if_neg (by omega), if_neg h, List.getD_eq_getElem?_getD]
theorem atB_keep {bs : List Bool} {x y : Int} (hx0 : 0 ≤ x) (hx : x < bs.length) (hy0 : 0 ≤ y) (h : atB bs y = true) : atB (bs.set x.toNat true) y = true := by
 rw [atB_set hx0 hx hy0]; split <;> simp [h]
theorem atB_new {bs : List Bool} {x : Int} (hx0 : 0 ≤ x) (hx : x < bs.length) : atB (bs.set x.toNat true) x = true := by
 rw [atB_set hx0 hx hx0, if_pos rfl]
theorem sound_set {c : Cat} {xs : List Int} {bs : List Bool} {x : Int} (h : Sound c xs bs) (hx0 : 0 ≤ x) (hx : x < bs.length) (hg : Gen c xs x) : Sound c xs (bs.set x.toNat true) := fun f hf => by
 rw [atB_set hx0 hx (by omega)] at hf
 split at hf
 ·rename_i e; rw [← e]; exact hg
 ·exact h f hf
theorem sound_zero (c : Cat) (xs : List Int) (m : Nat) : Sound c xs (List.replicate m false) := fun f hf => by
 unfold atB at hf
 rw [List.getD_eq_getElem?_getD, List.getElem?_replicate] at hf
 split at hf <;> simp at hf
theorem cntF_set {bs : List Bool} : ∀ {k : Nat}, k < bs.length → bs.getD k false = false → cntF (bs.set k true) + 1 = cntF bs := by
 induction bs with
 | nil => intro k hk; simp at hk
 | cons b bs ih =>
  intro k hk hb
  cases k with
  | zero => simp only [List.getD_cons_zero] at hb; subst hb; simp [cntF]
  | succ k =>
   simp only [List.getD_cons_succ] at hb
   have := ih (k := k) (by simpa using hk) hb
   simp only [List.set_cons_succ, cntF, List.filter_cons] at this ⊢
   split <;> simp_all <;> omega
theorem seeds_set {c : Cat} {xs : List Int} {bs : List Bool} {k : Nat} {x : Int} (h : Seeds c xs bs k) (hx0 : 0 ≤ x) (hx : x < bs.length) (hp : ∀ j : Nat, j < k → 0 ≤ at0 xs (j : Int) ∧ 0 ≤ at0 c.e (at0 c.s (at0 xs (j : Int))) ∧ 0 ≤ at0 c.e (at0 c.t (at0 xs (j : Int)))) : Seeds c xs (bs.set x.toNat true) k := fun j hj => by
 obtain ⟨h1, h2, h3⟩ := h j hj
 obtain ⟨p1, p2, p3⟩ := hp j hj
 exact ⟨atB_keep hx0 hx p1 h1, atB_keep hx0 hx p2 h2, atB_keep hx0 hx p3 h3⟩
theorem mem_at0C {xs : List Int} {x : Int} (h : x ∈ xs) : ∃ j : Nat, j < xs.length ∧ at0 xs (j : Int) = x := by
 obtain ⟨j, hj, rfl⟩ := List.getElem_of_mem h
 exact ⟨j, hj, by rw [at0_nat, List.getD_eq_getElem?_getD, List.getElem?_eq_getElem hj]; rfl⟩
theorem seed_pos {c : Cat} {xs : List Int} (hS : ShapeP c) (hx : AllP c.s.length xs) {j : Nat} (hj : j < xs.length) : 0 ≤ at0 xs (j : Int) ∧ at0 xs (j : Int) < c.s.length ∧ 0 ≤ at0 c.e (at0 c.s (at0 xs (j : Int))) ∧ at0 c.e (at0 c.s (at0 xs (j : Int))) < c.s.length ∧ 0 ≤ at0 c.e (at0 c.t (at0 xs (j : Int))) ∧ at0 c.e (at0 c.t (at0 xs (j : Int))) < c.s.length := by
 have h := allP_at hx hj
 have hA := arrP hS h.1 h.2
 have hid : ∀ x : Int, 0 ≤ x → x < c.e.length → 0 ≤ at0 c.e x ∧ at0 c.e x < c.s.length := fun x x0 x1 => by
  obtain ⟨k, rfl⟩ := Int.eq_ofNat_of_zero_le x0
  exact (hS.id k (by omega)).1
 have h1 := hid _ hA.s0 hA.s1
 have h2 := hid _ hA.t0 hA.t1
 exact ⟨h.1, h.2, h1.1, h1.2, h2.1, h2.2⟩
theorem seeds_next {c : Cat} {xs : List Int} {bs : List Bool} {k : Nat} (hS : ShapeP c) (hx : AllP c.s.length xs) (hk : k < xs.length) (hl : bs.length = c.s.length) (h : Seeds c xs bs k) (hs : Sound c xs bs) :
  let bs1 := bs.set (at0 xs (k : Int)).toNat true
  let bs2 := bs1.set (at0 c.e (at0 c.s (at0 xs (k : Int)))).toNat true
  let bs3 := bs2.set (at0 c.e (at0 c.t (at0 xs (k : Int)))).toNat true
  bs3.length = c.s.length ∧ Seeds c xs bs3 (k + 1) ∧ Sound c xs bs3 := by
 intro bs1 bs2 bs3
 obtain ⟨a0, a1, b0, b1, d0, d1⟩ := seed_pos hS hx hk
 have hp : ∀ j : Nat, j < k → 0 ≤ at0 xs (j : Int) ∧ 0 ≤ at0 c.e (at0 c.s (at0 xs (j : Int))) ∧ 0 ≤ at0 c.e (at0 c.t (at0 xs (j : Int))) := fun j hj => by
  obtain ⟨a0, _, b0, _, d0, _⟩ := seed_pos hS hx (j := j) (by omega)
  exact ⟨a0, b0, d0⟩
 have l1 : bs1.length = c.s.length := by simp [bs1, hl]
 have l2 : bs2.length = c.s.length := by simp [bs2, l1]
 have l3 : bs3.length = c.s.length := by simp [bs3, l2]
 have hm : at0 xs (k : Int) ∈ xs := at0_memC hk
 refine ⟨l3, fun j hj => ?_, sound_set (sound_set (sound_set hs a0 (by omega) (.of hm)) b0 (by omega) (.src hm)) d0 (by omega) (.tgt hm)⟩
 by_cases hjk : j = k
 ·subst hjk
  exact ⟨atB_keep d0 (by omega) a0 (atB_keep b0 (by omega) a0 (atB_new a0 (by omega))), atB_keep d0 (by omega) b0 (atB_new b0 (by omega)), atB_new d0 (by omega)⟩
 ·have q1 : Seeds c xs bs1 k := seeds_set h a0 (by omega) hp
  have q2 : Seeds c xs bs2 k := seeds_set (bs := bs1) q1 b0 (by omega) hp
  have q3 : Seeds c xs bs3 k := seeds_set (bs := bs2) q2 d0 (by omega) hp
  exact q3 j (by omega)
/-- All that the second loop keeps. -/
def CloseI (c : Cat) (xs : List Int) (bs : List Bool) : Prop := bs.length = c.s.length ∧ Seeds c xs bs xs.length ∧ Sound c xs bs
theorem closeI_set {c : Cat} {xs : List Int} {bs : List Bool} {x : Int} (hS : ShapeP c) (hx : AllP c.s.length xs) (h : CloseI c xs bs) (h0 : 0 ≤ x) (h1 : x < c.s.length) (hg : Gen c xs x) : CloseI c xs (bs.set x.toNat true) := by
 have hl := h.1
 refine ⟨by simp [hl], seeds_set h.2.1 h0 (by omega) fun j hj => ?_, sound_set h.2.2 h0 (by omega) hg⟩
 obtain ⟨a0, _, b0, _, d0, _⟩ := seed_pos hS hx (j := j) hj
 exact ⟨a0, b0, d0⟩
theorem closed_all {c : Cat} {xs : List Int} {bs : List Bool} (hS : ShapeP c) (hx : AllP c.s.length xs) (h : CloseI c xs bs) (hc : ClosedTo c bs c.s.length 0) : ∀ x : Int, Gen c xs x → 0 ≤ x ∧ x < c.s.length ∧ atB bs x = true := by
 intro x hg
 induction hg with
 | of hm =>
  obtain ⟨j, hj, rfl⟩ := mem_at0C hm
  have := seed_pos hS hx hj
  exact ⟨this.1, this.2.1, (h.2.1 j hj).1⟩
 | src hm =>
  obtain ⟨j, hj, rfl⟩ := mem_at0C hm
  have := seed_pos hS hx hj
  exact ⟨this.2.2.1, this.2.2.2.1, (h.2.1 j hj).2.1⟩
 | tgt hm =>
  obtain ⟨j, hj, rfl⟩ := mem_at0C hm
  have := seed_pos hS hx hj
  exact ⟨this.2.2.2.2.1, this.2.2.2.2.2, (h.2.1 j hj).2.2⟩
 | comp _ _ he ih1 ih2 =>
  obtain ⟨f0, f1, hf⟩ := ih1
  obtain ⟨g0, g1, hg⟩ := ih2
  have ht := (th_ends hS f0 f1 g0 g1 he).1
  obtain ⟨a, rfl⟩ := Int.eq_ofNat_of_zero_le f0
  obtain ⟨b, rfl⟩ := Int.eq_ofNat_of_zero_le g0
  exact ⟨ht.1, ht.2, hc.1 a b (by omega) (by omega) hf hg he⟩
theorem close_iff {c : Cat} {xs : List Int} {bs : List Bool} (hS : ShapeP c) (hx : AllP c.s.length xs) (h : CloseI c xs bs) (hc : ClosedTo c bs c.s.length 0) (f : Nat) : atB bs (f : Int) = true ↔ Gen c xs (f : Int) :=
 ⟨h.2.2 f, fun hg => (closed_all hS hx h hc _ hg).2.2⟩
theorem closedTo_next {c : Cat} {bs : List Bool} {f g : Nat} (h : ClosedTo c bs f g) (ha : ClosedAt c bs f g) : ClosedTo c bs f (g + 1) := ⟨h.1, fun b hb => by
 by_cases e : b = g
 ·subst e; exact ha
 ·exact h.2 b (by omega)⟩
theorem closedTo_row {c : Cat} {bs : List Bool} {f : Nat} (h : ClosedTo c bs f c.s.length) : ClosedTo c bs (f + 1) 0 := ⟨fun a b ha hb => by
 by_cases e : a = f
 ·subst e; exact h.2 b hb
 ·exact h.1 a b (by omega) hb, fun b hb => absurd hb (by omega)⟩
theorem closedTo_zero (c : Cat) (bs : List Bool) : ClosedTo c bs 0 0 := ⟨fun a b ha => absurd ha (by omega), fun b hb => absurd hb (by omega)⟩
def bN (b : Bool) : Nat := if b then 1 else 0
theorem gen_t {c : Cat} {xs : List Int} {k : Nat} (h : Gen c xs (k : Int)) : genL c xs k ++ [(k : Int)] = genL c xs (k + 1) := filTo_t (p := fun f => Gen c xs (f : Int)) h
theorem gen_f {c : Cat} {xs : List Int} {k : Nat} (h : ¬ Gen c xs (k : Int)) : genL c xs k = genL c xs (k + 1) := filTo_f (p := fun f => Gen c xs (f : Int)) h
theorem gen_len (c : Cat) (xs : List Int) (k : Nat) : (genL c xs k).length ≤ k := filTo_len _ _ _

set_option maxHeartbeats 1000000 in
set_option maxRecDepth 100000 in
theorem specClose_any (w : World) (v u : Value) (c : Cat) (xs : List Int) (h : RdC w v c) (hS : ShapeP c) (hu : Rd w u xs) (hx : AllP c.s.length xs) :
  Calls Try.prog 86 #[v, u] w (RetL w (genL c xs c.s.length)) := by
 have h0 := h
 obtain ⟨va, vb, vc, vd, ve, vf, vg, vh, rfl, h1, h2, h3, h4, _⟩ := h.lists
 obtain ⟨ua, uc, rfl⟩ := rd_form hu
 have hn40 := hS.n40; have htl := hS.tl; have hel := hS.el; have hob0 := hS.ob0; have hob8 := hS.ob8; have hml := hS.ml
 have hxl : xs.length ≤ 17592186044415 := by obtain ⟨_, _, _, hl, _⟩ := hu; exact hl
 go_enter Try.func86, Try.ntmps86
 refine gc_enter (N := 132) rfl (look_cons (k := 0) rfl (look_cons (k := 1) rfl (look_nil _))) ?_
 refine gc_sr fun K1 hK1 => ?_
 refine gop fun K3 hK3 => ?_
 refine go_box rfl rfl rfl rfl rfl ?_
 intro B2
 refine hK3 _ _ ?_
 refine gas ?_
 refine gnt (hK1 _ _ ?_)
 refine gc_sr fun K4 hK4 => ?_
 refine gv (qtf Try.underlying29 (z := 0) (off := 1)) ?_
 refine gv (qtl Try.underlying22 (n := 0)) ?_
 refine gv (qln (fun w M => lenV_rd h1)) ?_
 refine gop fun K6 hK6 => ?_
 refine go_makeB rfl rfl rfl Try.underlying121 rfl rfl (by omega) ?_
 intro B5
 refine hK6 _ _ ?_
 refine gas ?_
 refine gnt (hK4 _ _ ?_)
 refine gc_seq fun K7 hK7 => ?_
 refine gc_sr fun K8 hK8 => ?_
 refine gas ?_
 refine gnt (hK8 _ _ ?_)
 refine gc_block ?_
 try simp only [sL]
 refine gc_loopT ([(0, _), (1, _), (2, _), (4, _), (5, _)] : Env) (fun s : Nat × (List Bool) => (fun (k : Nat) (bs : List Bool) => (([(6, .int .i64 (k : Int))] : Env), ([(1, ownBI (.slice (some ⟨B5, 0, none⟩) c.s.length c.s.length) bs)] : List (Nat × Itm)), k ≤ xs.length ∧ bs.length = c.s.length ∧ Seeds c xs bs k ∧ Sound c xs bs, xs.length - k)) s.1 s.2) (0, List.replicate c.s.length false) (by repeat first | exact sub_nil | refine sub_cons rfl ?_) rfl ⟨Nat.zero_le _, by simp, fun j hj => absurd hj (by omega), sound_zero c xs _⟩ ?_
 rintro ⟨k, bs⟩ hinv KL9 hKL9
 simp only [sU, sL] at hinv hKL9 ⊢
 obtain ⟨hk, hbl, hsd, hso⟩ := hinv
 refine gc_seq fun K10 hK10 => ?_
 refine gc_sr fun K11 hK11 => ?_
 refine gm ?_
 refine gm ?_
 refine gv (qln (fun w M => lenV_rd hu)) ?_
 refine gv (qt_lss rfl rfl rfl) ?_
 refine gnt (hK11 _ _ ?_)
 refine gc_cond rfl (fun hc0 => ?_) (fun hc0 => ?_)
 ·try simp only [sA] at hc0
  refine gc_skip ?_
  refine gk_then (hK10 _ _ ?_)
  refine gc_seq fun K12 hK12 => ?_
  refine gc_block ?_
  refine gc_seq fun K13 hK13 => ?_
  have hq := seed_pos hS hx (j := k) (by omega)
  obtain ⟨p0, p1, p2, p3, p4, p5⟩ := hq
  have hA := arrP hS p0 p1
  have a1 := hA.fs; have a2 := hA.ft; have a3 := hA.s0; have a4 := hA.s1; have a5 := hA.t0; have a6 := hA.t1
  refine gc_region ?_
  refine gm ?_
  refine gm ?_
  refine gm ?_
  refine gv (qti (fun w M => lenA_rd hu)) ?_
  refine gv (qtd (fun w M => mem_rd M hu)) ?_
  refine gv (qt_index rfl rfl rfl ulEB szEB (fun w M => lenA_B (n := 1) rfl M) (by omega) (by omega)) ?_
  refine gop fun K14 hK14 => ?_
  refine go_storeBool (n := 1) rfl rfl rfl rfl (by kernel_rfl) rfl (by omega) (by omega) ?_
  refine hK14 _ _ ?_
  refine gnt (hK13 _ _ ?_)
  refine gc_seq fun K15 hK15 => ?_
  have hb1 : (bs.set (at0 xs (k : Int)).toNat true).length = c.s.length := by simp [hbl]
  try simp only [sL]
  refine ga_start _ (fun w M => mem_erase 1 (M)) ?_
  refine gav 0 rfl (qt_move rfl rfl) ?_
  refine gav 1 rfl (qtf Try.underlying29 (z := 0) (off := 3)) ?_
  refine gav 2 rfl (qtl Try.underlying22 (n := 0)) ?_
  refine gav 3 rfl (qtf Try.underlying29 (z := 0) (off := 1)) ?_
  refine gav 4 rfl (qtl Try.underlying22 (n := 0)) ?_
  refine gav 5 rfl (qt_move rfl rfl) ?_
  refine gav 6 rfl (qt_move rfl rfl) ?_
  refine gav 7 rfl (qti (fun w M => lenA_rd hu)) ?_
  refine gav 8 rfl (qtd (fun w M => mem_rd M hu)) ?_
  refine gav 9 rfl (qti (fun w M => lenA_rd h1)) ?_
  refine gav 10 rfl (qtd (fun w M => mem_rd M h1)) ?_
  refine gav 11 rfl (qti (fun w M => lenA_rd h3)) ?_
  refine gav 12 rfl (qtd (fun w M => mem_rd M h3)) ?_
  refine gao 13 fun K16 hK16 => ?_
  refine gov (qt_index rfl rfl rfl ulEB szEB (fun w M => lenA_B (n := 1) rfl M) (by omega) (by omega)) ?_
  refine hK16 _ _ (fun w M => (mem_erase 1 (mem_take 2 M) :)) ?_
  refine gao 14 fun K17 hK17 => ?_
  refine go_storeBool (n := 1) rfl rfl rfl rfl (by kernel_rfl) rfl (by omega) (by omega) ?_
  refine hK17 _ _ (fun w M => (mem_erase 1 (mem_take 2 M) :)) ?_
  refine ga_done (by kernel_rfl) ?_
  refine gk_then (hK15 _ _ ?_)
  have hb2 : ((bs.set (at0 xs (k : Int)).toNat true).set (at0 c.e (at0 c.s (at0 xs (k : Int)))).toNat true).length = c.s.length := by simp [hbl]
  try simp only [sL]
  refine ga_start _ (fun w M => mem_erase 1 (M)) ?_
  refine gav 0 rfl (qt_move rfl rfl) ?_
  refine gav 1 rfl (qtf Try.underlying29 (z := 0) (off := 3)) ?_
  refine gav 2 rfl (qtl Try.underlying22 (n := 0)) ?_
  refine gav 3 rfl (qtf Try.underlying29 (z := 0) (off := 2)) ?_
  refine gav 4 rfl (qtl Try.underlying22 (n := 0)) ?_
  refine gav 5 rfl (qt_move rfl rfl) ?_
  refine gav 6 rfl (qt_move rfl rfl) ?_
  refine gav 7 rfl (qti (fun w M => lenA_rd hu)) ?_
  refine gav 8 rfl (qtd (fun w M => mem_rd M hu)) ?_
  refine gav 9 rfl (qti (fun w M => lenA_rd h2)) ?_
  refine gav 10 rfl (qtd (fun w M => mem_rd M h2)) ?_
  refine gav 11 rfl (qti (fun w M => lenA_rd h3)) ?_
  refine gav 12 rfl (qtd (fun w M => mem_rd M h3)) ?_
  refine gao 13 fun K18 hK18 => ?_
  refine gov (qt_index rfl rfl rfl ulEB szEB (fun w M => lenA_B (n := 1) rfl M) (by omega) (by omega)) ?_
  refine hK18 _ _ (fun w M => (mem_erase 1 (mem_take 2 M) :)) ?_
  refine gao 14 fun K19 hK19 => ?_
  refine go_storeBool (n := 1) rfl rfl rfl rfl (by kernel_rfl) rfl (by omega) (by omega) ?_
  refine hK19 _ _ (fun w M => (mem_erase 1 (mem_take 2 M) :)) ?_
  refine ga_done (by kernel_rfl) ?_
  refine gk_block ?_
  refine gk_then (hK12 _ _ ?_)
  refine gc_region ?_
  refine gm ?_
  refine gv (qt_add rfl rfl rfl (by omega)) ?_
  refine gas ?_
  refine g_nil ?_
  refine gk_then (gk_take 2 ?_)
  refine gk_sub ?hs_20 (hKL9 (k + 1, _) ?hi_20 ?hm_20)
  case hs_20 => repeat first | exact sub_nil | refine sub_cons rfl ?_
  case hi_20 => have hnx := seeds_next hS hx (by omega) hbl hsd hso; exact ⟨by omega, hnx⟩
  case hm_20 => omega
 ·try simp only [sA] at hc0
  refine gc_exit ?_
  refine gk_then_exit ?_
  refine gk_then_exit ?_
  refine gk_block_hit ?_
  refine gk_then (hK7 _ _ ?_)
  refine gc_seq fun K21 hK21 => ?_
  refine gc_sr fun K22 hK22 => ?_
  refine gas ?_
  refine gnt (hK22 _ _ ?_)
  refine gc_block ?_
  obtain rfl : k = xs.length := by omega
  try simp only [sL]
  refine gc_loopT ([(0, _), (1, _), (2, _), (4, _), (5, _), (6, _), (19, _)] : Env) (fun s : Bool × (List Bool) => (fun (mo : Bool) (b1 : List Bool) => (([(7, .bool mo)] : Env), ([(1, ownBI (.slice (some ⟨B5, 0, none⟩) c.s.length c.s.length) b1)] : List (Nat × Itm)), CloseI c xs b1 ∧ (mo = false → ClosedTo c b1 c.s.length 0), cntF b1 + bN mo)) s.1 s.2) (true, bs) (by repeat first | exact sub_nil | refine sub_cons rfl ?_) rfl ⟨⟨hbl, hsd, hso⟩, fun h => by cases h⟩ ?_
  rintro ⟨mo, b1⟩ hinv KL23 hKL23
  simp only [sU, sL] at hinv hKL23 ⊢
  obtain ⟨hci, hcl⟩ := hinv
  refine gc_seq fun K24 hK24 => ?_
  refine gc_sr fun K25 hK25 => ?_
  refine gm ?_
  refine gnt (hK25 _ _ ?_)
  refine gc_cond rfl (fun hc1 => ?_) (fun hc1 => ?_)
  ·try simp only [sA] at hc1
   refine gc_skip ?_
   refine gk_then (hK24 _ _ ?_)
   refine gc_block ?_
   refine gc_sr fun K26 hK26 => ?_
   refine gas ?_
   refine gnt (hK26 _ _ ?_)
   refine gc_sr fun K27 hK27 => ?_
   refine gas ?_
   refine gnt (hK27 _ _ ?_)
   refine gc_block ?_
   try simp only [sL]
   refine gc_loopT ([(0, _), (1, _), (2, _), (4, _), (5, _), (6, _), (19, _), (56, _)] : Env) (fun s : Nat × Bool × (List Bool) => (fun (f : Nat) (mo1 : Bool) (b2 : List Bool) => (([(7, .bool mo1), (8, .int .i64 (f : Int))] : Env), ([(1, ownBI (.slice (some ⟨B5, 0, none⟩) c.s.length c.s.length) b2)] : List (Nat × Itm)), f ≤ c.s.length ∧ CloseI c xs b2 ∧ (mo1 = false → ClosedTo c b2 f 0) ∧ cntF b2 + bN mo1 ≤ cntF b1, c.s.length - f)) s.1 s.2.1 s.2.2) (0, false, b1) (by repeat first | exact sub_nil | refine sub_cons rfl ?_) rfl ⟨Nat.zero_le _, hci, fun _ => closedTo_zero c b1, Nat.le_refl _⟩ ?_
   rintro ⟨f, mo1, b2⟩ hinv KL28 hKL28
   simp only [sU, sL] at hinv hKL28 ⊢
   obtain ⟨hf, hci2, hcl2, hcn2⟩ := hinv
   have hl2 := hci2.1
   refine gc_seq fun K29 hK29 => ?_
   refine gc_sr fun K30 hK30 => ?_
   refine gm ?_
   refine gm ?_
   refine gv (qt_len rfl rfl ulEB (fun w M => lenV_B (n := 1) rfl M)) ?_
   refine gv (qt_lss rfl rfl rfl) ?_
   refine gnt (hK30 _ _ ?_)
   refine gc_cond rfl (fun hc2 => ?_) (fun hc2 => ?_)
   ·try simp only [sA] at hc2
    refine gc_skip ?_
    refine gk_then (hK29 _ _ ?_)
    refine gc_seq fun K31 hK31 => ?_
    refine gc_block ?_
    refine gc_sr fun K32 hK32 => ?_
    refine gas ?_
    refine gnt (hK32 _ _ ?_)
    refine gc_block ?_
    try simp only [sL]
    refine gc_loopT ([(0, _), (1, _), (2, _), (4, _), (5, _), (6, _), (8, _), (19, _), (56, _), (60, _)] : Env) (fun s : Nat × Bool × (List Bool) => (fun (g : Nat) (mo2 : Bool) (b3 : List Bool) => (([(7, .bool mo2), (9, .int .i64 (g : Int))] : Env), ([(1, ownBI (.slice (some ⟨B5, 0, none⟩) c.s.length c.s.length) b3)] : List (Nat × Itm)), g ≤ c.s.length ∧ CloseI c xs b3 ∧ (mo2 = false → ClosedTo c b3 f g) ∧ cntF b3 + bN mo2 ≤ cntF b1, c.s.length - g)) s.1 s.2.1 s.2.2) (0, mo1, b2) (by repeat first | exact sub_nil | refine sub_cons rfl ?_) rfl ⟨Nat.zero_le _, hci2, hcl2, hcn2⟩ ?_
    rintro ⟨g, mo2, b3⟩ hinv KL33 hKL33
    simp only [sU, sL] at hinv hKL33 ⊢
    obtain ⟨hg, hci3, hcl3, hcn3⟩ := hinv
    have hl3 := hci3.1
    refine gc_seq fun K34 hK34 => ?_
    refine gc_sr fun K35 hK35 => ?_
    refine gm ?_
    refine gm ?_
    refine gv (qt_len rfl rfl ulEB (fun w M => lenV_B (n := 1) rfl M)) ?_
    refine gv (qt_lss rfl rfl rfl) ?_
    refine gnt (hK35 _ _ ?_)
    refine gc_cond rfl (fun hc3 => ?_) (fun hc3 => ?_)
    ·try simp only [sA] at hc3
     refine gc_skip ?_
     refine gk_then (hK34 _ _ ?_)
     refine gc_seq fun K36 hK36 => ?_
     refine gc_block ?_
     refine gc_seq fun K37 hK37 => ?_
     have hA := arrP hS (f := (f : Int)) (by omega) (by omega)
     have hB := arrP hS (f := (g : Int)) (by omega) (by omega)
     have i1 := hA.fs; have i2 := hA.ft; have i3 := hA.fm; have i4 := hA.row; have j1 := hB.fs; have j2 := hB.ft; have j3 := hB.fm
     refine gc_draw (by kernel_rfl) ?_
     refine gdv (qt_move rfl rfl) ?_
     refine gdv (qt_move rfl rfl) ?_
     refine gdv (qt_index rfl rfl rfl ulEB szEB (fun w M => lenA_B (n := 1) rfl M) (by omega) (by omega)) ?_
     refine gdv (qt_loadBool (n := 1) rfl rfl Try.underlying4 rfl rfl (by omega) (by omega)) ?_
     refine gd_splitv (.free rfl) rfl rfl (qt_move rfl rfl) (fun hs17_4 => ?_) (fun hs17_4 => ?_)
     ·try simp only [sA] at hs17_4
      refine gdvh (qt_move rfl rfl) ?_
      refine gdvh (qt_move rfl rfl) ?_
      refine gdvh (qt_index rfl rfl rfl ulEB szEB (fun w M => lenA_B (n := 1) rfl M) (by omega) (by omega)) ?_
      refine gdvh (qt_loadBool (n := 1) rfl rfl Try.underlying4 rfl rfl (by omega) (by omega)) ?_
      refine gdv (qt_pick_t rfl rfl rfl) ?_
      refine gd_splitv (.free rfl) rfl rfl (qt_move rfl rfl) (fun hs17_10 => ?_) (fun hs17_10 => ?_)
      ·try simp only [sA] at hs17_10
       refine gdvh (qtf Try.underlying29 (z := 0) (off := 2)) ?_
       refine gdvh (qtl Try.underlying22 (n := 0)) ?_
       refine gdvh (qt_move rfl rfl) ?_
       refine gdvh (qti (fun w M => lenA_rd h2)) ?_
       refine gdvh (qtd (fun w M => mem_rd M h2)) ?_
       refine gdvh (qtf Try.underlying29 (z := 0) (off := 1)) ?_
       refine gdvh (qtl Try.underlying22 (n := 0)) ?_
       refine gdvh (qt_move rfl rfl) ?_
       refine gdvh (qti (fun w M => lenA_rd h1)) ?_
       refine gdvh (qtd (fun w M => mem_rd M h1)) ?_
       refine gdvh (qt_eql rfl rfl rfl) ?_
       refine gdv (qt_pick_t rfl rfl rfl) ?_
       refine gd_splitv (.free rfl) rfl rfl (qt_move rfl rfl) (fun hs17_23 => ?_) (fun hs17_23 => ?_)
       ·try simp only [sA] at hs17_23
        have hT := th_ends hS (f := (f : Int)) (g := (g : Int)) (by omega) (by omega) (by omega) (by omega) hs17_23
        have t0 : 0 ≤ at0 (row2 c.m (f : Int)) (g : Int) := hT.1.1
        have t1 : at0 (row2 c.m (f : Int)) (g : Int) < c.s.length := hT.1.2
        refine gdvh (qt_move rfl rfl) ?_
        refine gdvh (qtf Try.underlying29 (z := 0) (off := 4)) ?_
        refine gdvh (qtl Try.underlying23 (n := 0)) ?_
        refine gdvh (qt_move rfl rfl) ?_
        refine gdvh (qti2 (fun w M => lenA_rd2 h4)) ?_
        refine gd_load2 (.held _ _ _ rfl rfl rfl) rfl rfl rfl rfl Try.underlying22 rfl h4 (by omega) (by omega) ?_
        intro ra38 rc38 hr38
        refine gdvh (qt_move rfl rfl) ?_
        refine gdvh (qti (fun w M => lenA_rd hr38)) ?_
        refine gdvh (qtd (fun w M => mem_rd M hr38)) ?_
        refine gdvh (qt_index rfl rfl rfl ulEB szEB (fun w M => lenA_B (n := 1) rfl M) (by omega) (by omega)) ?_
        refine gdvh (qt_loadBool (n := 1) rfl rfl Try.underlying4 rfl rfl (by omega) (by omega)) ?_
        refine gdvh (qt_not rfl rfl) ?_
        refine gdv (qt_pick_t rfl rfl rfl) ?_
        refine gd_nil ?_
        refine gk_then (hK37 _ _ ?_)
        refine gc_cond rfl (fun hc4 => ?_) (fun hc4 => ?_)
        ·try simp only [sA] at hc4
         refine gc_sr fun K39 hK39 => ?_
         refine gm ?_
         refine gv (qtf Try.underlying29 (z := 0) (off := 4)) ?_
         refine gv (qtl Try.underlying23 (n := 0)) ?_
         refine gm ?_
         refine gv (qti2 (fun w M => lenA_rd2 h4)) ?_
         refine g_load2 (.free rfl) rfl rfl rfl rfl Try.underlying22 rfl h4 (by omega) (by omega) ?_
         intro ra40 rc40 hr40
         refine gm ?_
         refine gv (qti (fun w M => lenA_rd hr40)) ?_
         refine gv (qtd (fun w M => mem_rd M hr40)) ?_
         refine gv (qt_index rfl rfl rfl ulEB szEB (fun w M => lenA_B (n := 1) rfl M) (by omega) (by omega)) ?_
         refine gop fun K41 hK41 => ?_
         refine go_storeBool (n := 1) rfl rfl rfl rfl (by kernel_rfl) rfl (by omega) (by omega) ?_
         refine hK41 _ _ ?_
         refine gnt (hK39 _ _ ?_)
         refine gc_region ?_
         refine gas ?_
         refine g_nil ?_
         refine gk_block ?_
         refine gk_then (hK36 _ _ ?_)
         refine gc_region ?_
         refine gm ?_
         refine gv (qt_add rfl rfl rfl (by omega)) ?_
         refine gas ?_
         refine g_nil ?_
         refine gk_then (gk_take 2 ?_)
         refine gk_sub ?hs_42 (hKL33 (g + 1, true, _) ?hi_42 ?hm_42)
         case hs_42 => repeat first | exact sub_nil | refine sub_cons rfl ?_
         case hi_42 => have hcs := cntF_set (bs := b3) (k := (at0 (row2 c.m (f : Int)) (g : Int)).toNat) (by omega) hc4; exact ⟨by omega, closeI_set hS hx hci3 t0 t1 (Gen.comp (hci3.2.2 f hs17_4) (hci3.2.2 g hs17_10) hs17_23), fun h => Bool.noConfusion (show true = false from h), (show cntF (b3.set (at0 (row2 c.m (f : Int)) (g : Int)).toNat true) + 1 ≤ cntF b1 by omega)⟩
         case hm_42 => omega
        ·try simp only [sA] at hc4
         refine gc_skip ?_
         refine gk_block ?_
         refine gk_then (hK36 _ _ ?_)
         refine gc_region ?_
         refine gm ?_
         refine gv (qt_add rfl rfl rfl (by omega)) ?_
         refine gas ?_
         refine g_nil ?_
         refine gk_then (gk_take 2 ?_)
         refine gk_sub ?hs_43 (hKL33 (g + 1, mo2, b3) ?hi_43 ?hm_43)
         case hs_43 => repeat first | exact sub_nil | refine sub_cons rfl ?_
         case hi_43 => exact ⟨by omega, hci3, fun h => closedTo_next (hcl3 h) (fun _ _ _ => hc4), hcn3⟩
         case hm_43 => omega
       ·try simp only [sA] at hs17_23
        refine gdsk ?_
        refine gdsk ?_
        refine gdsk ?_
        refine gdsk ?_
        refine gdsk ?_
        refine gdsk ?_
        refine gdsk ?_
        refine gdsk ?_
        refine gdsk ?_
        refine gdsk ?_
        refine gdsk ?_
        refine gdsk ?_
        refine gdv (qt_pick_f rfl rfl rfl) ?_
        refine gd_nil ?_
        refine gk_then (hK37 _ _ ?_)
        refine gc_cond_f rfl ?_
        refine gc_skip ?_
        refine gk_block ?_
        refine gk_then (hK36 _ _ ?_)
        refine gc_region ?_
        refine gm ?_
        refine gv (qt_add rfl rfl rfl (by omega)) ?_
        refine gas ?_
        refine g_nil ?_
        refine gk_then (gk_take 2 ?_)
        refine gk_sub ?hs_44 (hKL33 (g + 1, mo2, b3) ?hi_44 ?hm_44)
        case hs_44 => repeat first | exact sub_nil | refine sub_cons rfl ?_
        case hi_44 => exact ⟨by omega, hci3, fun h => closedTo_next (hcl3 h) (fun _ _ he => absurd he hs17_23), hcn3⟩
        case hm_44 => omega
      ·try simp only [sA] at hs17_10
       refine gdsk ?_
       refine gdsk ?_
       refine gdsk ?_
       refine gdsk ?_
       refine gdsk ?_
       refine gdsk ?_
       refine gdsk ?_
       refine gdsk ?_
       refine gdsk ?_
       refine gdsk ?_
       refine gdsk ?_
       refine gdv (qt_pick_f rfl rfl rfl) ?_
       refine gdv (qt_move rfl rfl) ?_
       refine gdsk ?_
       refine gdsk ?_
       refine gdsk ?_
       refine gdsk ?_
       refine gdsk ?_
       refine gdsk ?_
       refine gdsk ?_
       refine gdsk ?_
       refine gdsk ?_
       refine gdsk ?_
       refine gdsk ?_
       refine gdsk ?_
       refine gdv (qt_pick_f rfl rfl rfl) ?_
       refine gd_nil ?_
       refine gk_then (hK37 _ _ ?_)
       refine gc_cond_f rfl ?_
       refine gc_skip ?_
       refine gk_block ?_
       refine gk_then (hK36 _ _ ?_)
       refine gc_region ?_
       refine gm ?_
       refine gv (qt_add rfl rfl rfl (by omega)) ?_
       refine gas ?_
       refine g_nil ?_
       refine gk_then (gk_take 2 ?_)
       refine gk_sub ?hs_45 (hKL33 (g + 1, mo2, b3) ?hi_45 ?hm_45)
       case hs_45 => repeat first | exact sub_nil | refine sub_cons rfl ?_
       case hi_45 => exact ⟨by omega, hci3, fun h => closedTo_next (hcl3 h) (fun _ hg2 _ => by rw [hs17_10] at hg2; cases hg2), hcn3⟩
       case hm_45 => omega
     ·try simp only [sA] at hs17_4
      refine gdsk ?_
      refine gdsk ?_
      refine gdsk ?_
      refine gdsk ?_
      refine gdv (qt_pick_f rfl rfl rfl) ?_
      refine gdv (qt_move rfl rfl) ?_
      refine gdsk ?_
      refine gdsk ?_
      refine gdsk ?_
      refine gdsk ?_
      refine gdsk ?_
      refine gdsk ?_
      refine gdsk ?_
      refine gdsk ?_
      refine gdsk ?_
      refine gdsk ?_
      refine gdsk ?_
      refine gdv (qt_pick_f rfl rfl rfl) ?_
      refine gdv (qt_move rfl rfl) ?_
      refine gdsk ?_
      refine gdsk ?_
      refine gdsk ?_
      refine gdsk ?_
      refine gdsk ?_
      refine gdsk ?_
      refine gdsk ?_
      refine gdsk ?_
      refine gdsk ?_
      refine gdsk ?_
      refine gdsk ?_
      refine gdsk ?_
      refine gdv (qt_pick_f rfl rfl rfl) ?_
      refine gd_nil ?_
      refine gk_then (hK37 _ _ ?_)
      refine gc_cond_f rfl ?_
      refine gc_skip ?_
      refine gk_block ?_
      refine gk_then (hK36 _ _ ?_)
      refine gc_region ?_
      refine gm ?_
      refine gv (qt_add rfl rfl rfl (by omega)) ?_
      refine gas ?_
      refine g_nil ?_
      refine gk_then (gk_take 2 ?_)
      refine gk_sub ?hs_46 (hKL33 (g + 1, mo2, b3) ?hi_46 ?hm_46)
      case hs_46 => repeat first | exact sub_nil | refine sub_cons rfl ?_
      case hi_46 => exact ⟨by omega, hci3, fun h => closedTo_next (hcl3 h) (fun hf2 _ _ => by rw [hs17_4] at hf2; cases hf2), hcn3⟩
      case hm_46 => omega
    ·try simp only [sA] at hc3
     refine gc_exit ?_
     refine gk_then_exit ?_
     refine gk_then_exit ?_
     refine gk_block_hit ?_
     refine gk_block ?_
     refine gk_then (hK31 _ _ ?_)
     refine gc_region ?_
     refine gm ?_
     refine gv (qt_add rfl rfl rfl (by omega)) ?_
     refine gas ?_
     refine g_nil ?_
     refine gk_then (gk_take 2 ?_)
     refine gk_sub ?hs_47 (hKL28 (f + 1, mo2, b3) ?hi_47 ?hm_47)
     case hs_47 => repeat first | exact sub_nil | refine sub_cons rfl ?_
     case hi_47 => exact ⟨by omega, hci3, fun h => closedTo_row (by have := hcl3 h; rwa [show g = c.s.length from by omega] at this), hcn3⟩
     case hm_47 => omega
   ·try simp only [sA] at hc2
    refine gc_exit ?_
    refine gk_then_exit ?_
    refine gk_then_exit ?_
    refine gk_block_hit ?_
    refine gk_block ?_
    refine gk_then (gk_take 2 ?_)
    refine gk_sub ?hs_48 (hKL23 (mo1, b2) ?hi_48 ?hm_48)
    case hs_48 => repeat first | exact sub_nil | refine sub_cons rfl ?_
    case hi_48 => exact ⟨hci2, fun h => by have := hcl2 h; rwa [show f = c.s.length from by omega] at this⟩
    case hm_48 => have hb : bN mo = 1 := (by rw [hc1]; rfl); show cntF b2 + bN mo1 < cntF b1 + bN mo; omega
  ·try simp only [sA] at hc1
   refine gc_exit ?_
   refine gk_then_exit ?_
   refine gk_then_exit ?_
   refine gk_block_hit ?_
   refine gk_then (hK21 _ _ ?_)
   refine gc_sr fun K49 hK49 => ?_
   refine gop fun K51 hK51 => ?_
   refine go_slice0 rfl rfl rfl Try.underlying22 ?_
   intro B50
   refine hK51 _ _ ?_
   refine gas ?_
   refine gnt (hK49 _ _ ?_)
   refine gc_seq fun K52 hK52 => ?_
   refine gc_sr fun K53 hK53 => ?_
   refine gas ?_
   refine gnt (hK53 _ _ ?_)
   refine gc_block ?_
   have hiff := close_iff hS hx hci (hcl hc1)
   have hbl1 := hci.1
   try simp only [sL]
   refine gc_loopT ([(0, _), (1, _), (2, _), (4, _), (5, _), (6, _), (7, _), (19, _), (56, _)] : Env) (fun s : Nat × (Option Addr) × Nat => (fun (k : Nat) (a : Option Addr) (q : Nat) => (([(10, .slice a (genL c xs k).length q), (11, .int .i64 (k : Int))] : Env), ([(2, own1I (.slice a (genL c xs k).length q) (genL c xs k))] : List (Nat × Itm)), k ≤ c.s.length, c.s.length - k)) s.1 s.2.1 s.2.2) (0, _, _) (by repeat first | exact sub_nil | refine sub_cons rfl ?_) rfl (Nat.zero_le _) ?_
   rintro ⟨k, a, q⟩ hinv KL54 hKL54
   simp only [sU, sL] at hinv hKL54 ⊢
   have hk := hinv
   have hgl := gen_len c xs k
   refine gc_seq fun K55 hK55 => ?_
   refine gc_sr fun K56 hK56 => ?_
   refine gm ?_
   refine gm ?_
   refine gv (qt_len rfl rfl ulEB (fun w M => lenV_B (n := 1) rfl M)) ?_
   refine gv (qt_lss rfl rfl rfl) ?_
   refine gnt (hK56 _ _ ?_)
   refine gc_cond rfl (fun hc5 => ?_) (fun hc5 => ?_)
   ·try simp only [sA] at hc5
    refine gc_skip ?_
    refine gk_then (hK55 _ _ ?_)
    refine gc_seq fun K57 hK57 => ?_
    refine gc_block ?_
    refine gc_sr fun K58 hK58 => ?_
    refine gm ?_
    refine gm ?_
    refine gv (qt_index rfl rfl rfl ulEB szEB (fun w M => lenA_B (n := 1) rfl M) (by omega) (by omega)) ?_
    refine gv (qt_loadBool (n := 1) rfl rfl Try.underlying4 rfl rfl (by omega) (by omega)) ?_
    refine gnt (hK58 _ _ ?_)
    refine gc_cond rfl (fun hc6 => ?_) (fun hc6 => ?_)
    ·try simp only [sA] at hc6
     refine gc_region ?_
     refine gm ?_
     refine gm ?_
     refine gop fun K60 hK60 => ?_
     refine go_slice1 rfl rfl rfl rfl Try.underlying22 ?_
     intro B59
     refine hK60 _ _ ?_
     refine gop fun K62 hK62 => ?_
     refine go_append (n := 2) (m := 3) rfl rfl rfl Try.underlying22 rfl rfl rfl rfl (by omega) ?_
     intro va61 vc61
     refine hK62 _ _ ?_
     refine gas ?_
     refine g_nil ?_
     refine gk_block ?_
     refine gk_then (hK57 _ _ ?_)
     refine gc_region ?_
     refine gm ?_
     refine gv (qt_add rfl rfl rfl (by omega)) ?_
     refine gas ?_
     refine g_nil ?_
     simp only [gen_t ((hiff k).1 hc6)]
     refine gk_then (gk_take 3 ?_)
     refine gk_sub ?hs_63 (hKL54 (k + 1, _, _) ?hi_63 ?hm_63)
     case hs_63 => repeat first | exact sub_nil | refine sub_cons rfl ?_
     case hi_63 => omega
     case hm_63 => omega
    ·try simp only [sA] at hc6
     refine gc_skip ?_
     refine gk_block ?_
     refine gk_then (hK57 _ _ ?_)
     refine gc_region ?_
     refine gm ?_
     refine gv (qt_add rfl rfl rfl (by omega)) ?_
     refine gas ?_
     refine g_nil ?_
     rw [gen_f (fun hg => by have := (hiff k).2 hg; rw [hc6] at this; cases this)]
     refine gk_then (gk_take 3 ?_)
     refine gk_sub ?hs_64 (hKL54 (k + 1, _, _) ?hi_64 ?hm_64)
     case hs_64 => repeat first | exact sub_nil | refine sub_cons rfl ?_
     case hi_64 => omega
     case hm_64 => omega
   ·try simp only [sA] at hc5
    refine gc_exit ?_
    refine gk_then_exit ?_
    refine gk_then_exit ?_
    refine gk_block_hit ?_
    refine gk_then (hK52 _ _ ?_)
    refine gc_sr fun K65 hK65 => ?_
    refine gm ?_
    refine gas ?_
    refine gnt (hK65 _ _ ?_)
    refine gc_ret ?_
    refine ret_1 rfl rfl  (fun w M => ?_)
    obtain rfl : k = c.s.length := by omega
    exact ⟨_, rfl, mem_own1 (n := 2) M rfl, M.1⟩
end

section
noncomputable def fGeneratedArrows (c : Cat) (xs : List Int) : List Int × Int := if arrErr c xs = 0 then (genL c xs c.s.length, 0) else ([], arrErr c xs)
noncomputable def fIsSubcategory (c : Cat) (xs : List Int) : Bool × Int := if arrErr c xs = 0 then (decide (xs = genL c xs c.s.length), 0) else (false, arrErr c xs)
theorem gens_e {c : Cat} {xs : List Int} (h : ¬ arrErr c xs = 0) : fGeneratedArrows c xs = ([], arrErr c xs) := if_neg h
theorem gens_t {c : Cat} {xs : List Int} (h : arrErr c xs = 0) : fGeneratedArrows c xs = (genL c xs c.s.length, 0) := if_pos h
theorem isub_e {c : Cat} {xs : List Int} (h : ¬ arrErr c xs = 0) : fIsSubcategory c xs = (false, arrErr c xs) := if_neg h
theorem isub_t {c : Cat} {xs : List Int} (h : arrErr c xs = 0) : fIsSubcategory c xs = (decide (xs = genL c xs c.s.length), 0) := if_pos h

/-! ### What is sorted and has the generated arrows is their list -/
theorem asc_extG : ∀ {xs ys : List Int}, xs.Pairwise (· < ·) → ys.Pairwise (· < ·) → (∀ x, x ∈ xs ↔ x ∈ ys) → xs = ys
  | [], [], _, _, _ => rfl
  | [], y :: ys, _, _, h => absurd ((h y).2 (List.mem_cons_self ..)) (by simp)
  | x :: xs, [], _, _, h => absurd ((h x).1 (List.mem_cons_self ..)) (by simp)
  | x :: xs, y :: ys, hx, hy, h => by
    rw [List.pairwise_cons] at hx hy
    have h1 := (h x).1 (List.mem_cons_self ..)
    have h2 := (h y).2 (List.mem_cons_self ..)
    have e : x = y := by
      rcases List.mem_cons.1 h1 with e | e
      · exact e
      · rcases List.mem_cons.1 h2 with e2 | e2
        · exact e2.symm
        · have a := hy.1 x e; have b := hx.1 y e2; omega
    subst e
    congr 1
    refine asc_extG hx.2 hy.2 fun z => ⟨fun hz => ?_, fun hz => ?_⟩
    · rcases List.mem_cons.1 ((h z).1 (List.mem_cons_of_mem _ hz)) with e | e
      · have := hx.1 z hz; omega
      · exact e
    · rcases List.mem_cons.1 ((h z).2 (List.mem_cons_of_mem _ hz)) with e | e
      · have := hy.1 z hz; omega
      · exact e
theorem genL_mem {c : Cat} {xs : List Int} {m : Nat} {x : Int} : x ∈ genL c xs m ↔ ∃ j : Nat, j < m ∧ Gen c xs (j : Int) ∧ (j : Int) = x := filTo_mem
theorem genL_asc (c : Cat) (xs : List Int) : ∀ m, (genL c xs m).Pairwise (· < ·)
  | 0 => by simp [genL, filTo]
  | m + 1 => by
    have ih := genL_asc c xs m
    by_cases h : Gen c xs (m : Int)
    · rw [← gen_t h, List.pairwise_append]
      refine ⟨ih, List.pairwise_singleton _ _, fun a ha b hb => ?_⟩
      obtain ⟨j, hj, _, rfl⟩ := genL_mem.1 ha
      rw [List.mem_singleton.1 hb]; omega
    · rw [← gen_f h]; exact ih
theorem genL_of {c : Cat} {xs found ys : List Int} (hp : ys.Perm found) (hs : ys.Pairwise (· ≤ ·)) (hn : found.Nodup) (hm : ∀ x, x ∈ found ↔ Gen c xs x ∧ 0 ≤ x ∧ x < c.s.length) : ys = genL c xs c.s.length := by
  refine asc_extG ?_ (genL_asc c xs _) fun x => ?_
  · have hy : ys.Nodup := hp.nodup_iff.2 hn
    refine (List.pairwise_and_iff.2 ⟨hs, hy⟩).imp fun h => ?_
    have := h.1; have h2 := h.2; omega
  · rw [hp.mem_iff, hm, genL_mem]
    constructor
    · rintro ⟨hg, h0, h1⟩
      obtain ⟨j, rfl⟩ := Int.eq_ofNat_of_zero_le h0
      exact ⟨j, by omega, hg, rfl⟩
    · rintro ⟨j, hj, hg, rfl⟩
      exact ⟨hg, by omega, by omega⟩
end

section
/-- The marks and the list of what is found. -/
structure GI (c : Cat) (xs : List Int) (bs : List Bool) (fs : List Int) : Prop where
  bl : bs.length = c.s.length
  nd : fs.Nodup
  sn : ∀ x ∈ fs, 0 ≤ x ∧ x < c.s.length ∧ Gen c xs x
  mkk : ∀ x : Int, 0 ≤ x → x < c.s.length → (atB bs x = true ↔ x ∈ fs)
  ln : fs.length + cntF bs = c.s.length
def addB (bs : List Bool) (f : Int) : List Bool := if f ≠ -1 ∧ atB bs f = false then bs.set f.toNat true else bs
def addF (bs : List Bool) (fs : List Int) (f : Int) : List Int := if f ≠ -1 ∧ atB bs f = false then fs ++ [f] else fs
theorem addB_t {bs : List Bool} {f : Int} (h : f ≠ -1) (h2 : atB bs f = false) : addB bs f = bs.set f.toNat true := if_pos ⟨h, h2⟩
theorem addF_t {bs : List Bool} {fs : List Int} {f : Int} (h : f ≠ -1) (h2 : atB bs f = false) : addF bs fs f = fs ++ [f] := if_pos ⟨h, h2⟩
theorem addB_f {bs : List Bool} {f : Int} (h : f = -1 ∨ atB bs f = true) : addB bs f = bs := if_neg fun h2 => h.elim h2.1 fun h => by rw [h] at h2; exact absurd h2.2 (by simp)
theorem addF_f {bs : List Bool} {fs : List Int} {f : Int} (h : f = -1 ∨ atB bs f = true) : addF bs fs f = fs := if_neg fun h2 => h.elim h2.1 fun h => by rw [h] at h2; exact absurd h2.2 (by simp)
theorem gi_zero (c : Cat) (xs : List Int) : GI c xs (List.replicate c.s.length false) [] where
  bl := by simp
  nd := List.nodup_nil
  sn := fun x h => by simp at h
  mkk := fun x x0 x1 => by
    have : atB (List.replicate c.s.length false) x = false := by
      unfold atB; rw [List.getD_eq_getElem?_getD, List.getElem?_replicate]; split <;> rfl
    rw [this]; simp
  ln := by
    have : ∀ n, cntF (List.replicate n false) = n := fun n => by simp [cntF]
    rw [this]; simp
theorem gi_len {c : Cat} {xs : List Int} {bs : List Bool} {fs : List Int} (h : GI c xs bs fs) : fs.length ≤ c.s.length := by have := h.ln; omega
theorem gi_add {c : Cat} {xs : List Int} {bs : List Bool} {fs : List Int} {f : Int} (h : GI c xs bs fs) (hf : f = -1 ∨ (0 ≤ f ∧ f < c.s.length ∧ Gen c xs f)) :
    GI c xs (addB bs f) (addF bs fs f) ∧ (∃ zs, addF bs fs f = fs ++ zs) ∧ (f ≠ -1 → f ∈ addF bs fs f) := by
  by_cases hc : f ≠ -1 ∧ atB bs f = false
  · rcases hf with rfl | ⟨f0, f1, hg⟩
    · exact absurd rfl hc.1
    have hbl := h.bl
    have hn : f ∉ fs := fun hm => by have := (h.mkk f f0 f1).2 hm; rw [hc.2] at this; cases this
    rw [addB_t hc.1 hc.2, addF_t hc.1 hc.2]
    refine ⟨⟨by simp [hbl], ?_, ?_, ?_, ?_⟩, ⟨[f], rfl⟩, fun _ => by simp⟩
    · rw [List.nodup_append]
      refine ⟨h.nd, by simp, fun a ha b hb => ?_⟩
      rw [List.mem_singleton.1 hb]; intro e; subst e; exact hn ha
    · intro x hx
      rcases List.mem_append.1 hx with hx | hx
      · exact h.sn x hx
      · rw [List.mem_singleton.1 hx]; exact ⟨f0, f1, hg⟩
    · intro x x0 x1
      rw [atB_set f0 (by omega) x0, List.mem_append, List.mem_singleton]
      by_cases e : f = x
      · simp [e]
      · rw [if_neg e, h.mkk x x0 x1]; exact ⟨.inl, fun h => h.elim id fun h => absurd h.symm e⟩
    · have h1 := cntF_set (bs := bs) (k := f.toNat) (by omega) (by simpa [atB] using hc.2)
      have h2 := h.ln
      rw [List.length_append, List.length_singleton]; omega
  · have hd : f = -1 ∨ atB bs f = true := by
      by_cases e : f = -1
      · exact .inl e
      · right; cases hb : atB bs f
        · exact absurd ⟨e, hb⟩ hc
        · rfl
    rw [addB_f hd, addF_f hd]
    refine ⟨h, ⟨[], by simp⟩, fun hne => ?_⟩
    rcases hf with rfl | ⟨f0, f1, _⟩
    · exact absurd rfl hne
    exact (h.mkk f f0 f1).1 (hd.elim (fun e => absurd e hne) id)
def SeedF (c : Cat) (xs fs : List Int) (k : Nat) : Prop := ∀ j : Nat, j < k → at0 xs (j : Int) ∈ fs ∧ at0 c.e (at0 c.s (at0 xs (j : Int))) ∈ fs ∧ at0 c.e (at0 c.t (at0 xs (j : Int))) ∈ fs
def PairD (c : Cat) (fs : List Int) (i j : Nat) : Prop := (at0 c.t (at0 fs (i : Int)) = at0 c.s (at0 fs (j : Int)) → c.th (at0 fs (i : Int)) (at0 fs (j : Int)) ∈ fs) ∧ (at0 c.t (at0 fs (j : Int)) = at0 c.s (at0 fs (i : Int)) → c.th (at0 fs (j : Int)) (at0 fs (i : Int)) ∈ fs)
def DoneF (c : Cat) (fs : List Int) (i j : Nat) : Prop := (∀ a b : Nat, a < i → b ≤ a → PairD c fs a b) ∧ ∀ b : Nat, b < j → PairD c fs i b
theorem at0_app {fs zs : List Int} {i : Nat} (h : i < fs.length) : at0 (fs ++ zs) (i : Int) = at0 fs (i : Int) := by
  rw [at0_nat, at0_nat, List.getD_eq_getElem?_getD, List.getD_eq_getElem?_getD, List.getElem?_append_left h]
theorem seedF_mono {c : Cat} {xs fs : List Int} {k : Nat} (zs : List Int) (h : SeedF c xs fs k) : SeedF c xs (fs ++ zs) k := fun j hj =>
  ⟨List.mem_append_left _ (h j hj).1, List.mem_append_left _ (h j hj).2.1, List.mem_append_left _ (h j hj).2.2⟩
theorem pairD_mono {c : Cat} {fs : List Int} {i j : Nat} (zs : List Int) (hi : i < fs.length) (hj : j < fs.length) (h : PairD c fs i j) : PairD c (fs ++ zs) i j := by
  unfold PairD
  rw [at0_app hi, at0_app hj]
  exact ⟨fun e => List.mem_append_left _ (h.1 e), fun e => List.mem_append_left _ (h.2 e)⟩
theorem doneF_mono {c : Cat} {fs : List Int} {i j : Nat} (zs : List Int) (hi : i < fs.length) (hj : j ≤ i + 1) (h : DoneF c fs i j) : DoneF c (fs ++ zs) i j :=
  ⟨fun a b ha hb => pairD_mono zs (by omega) (by omega) (h.1 a b ha hb), fun b hb => pairD_mono zs hi (by omega) (h.2 b hb)⟩
theorem doneF_row {c : Cat} {fs : List Int} {i : Nat} (h : DoneF c fs i (i + 1)) : DoneF c fs (i + 1) 0 :=
  ⟨fun a b ha hb => by
    by_cases e : a = i
    · subst e; exact h.2 b (by omega)
    · exact h.1 a b (by omega) hb, fun b hb => absurd hb (by omega)⟩
theorem doneF_zero (c : Cat) (fs : List Int) : DoneF c fs 0 0 := ⟨fun a b ha => absurd ha (by omega), fun b hb => absurd hb (by omega)⟩
/-- One of the given arrows and its identities are added. -/
theorem seedF_step {c : Cat} {xs fs : List Int} {bs : List Bool} {k : Nat} (hS : ShapeP c) (hx : AllP c.s.length xs) (hk : k < xs.length) (h : GI c xs bs fs) (hs : SeedF c xs fs k) :
    let f := at0 xs (k : Int)
    let b1 := addB bs f; let f1 := addF bs fs f
    let s := at0 c.e (at0 c.s f)
    let b2 := addB b1 s; let f2 := addF b1 f1 s
    let t := at0 c.e (at0 c.t f)
    GI c xs (addB b2 t) (addF b2 f2 t) ∧ SeedF c xs (addF b2 f2 t) (k + 1) := by
  intro f b1 f1 s b2 f2 t
  obtain ⟨p0, p1, s0, s1, t0, t1⟩ := seed_pos hS hx hk
  have hm : f ∈ xs := at0_memC hk
  obtain ⟨g1, ⟨z1, e1⟩, m1⟩ := gi_add (f := f) h (.inr ⟨p0, p1, .of hm⟩)
  obtain ⟨g2, ⟨z2, e2⟩, m2⟩ := gi_add (f := s) g1 (.inr ⟨s0, s1, .src hm⟩)
  obtain ⟨g3, ⟨z3, e3⟩, m3⟩ := gi_add (f := t) g2 (.inr ⟨t0, t1, .tgt hm⟩)
  refine ⟨g3, fun j hj => ?_⟩
  have n1 : f ≠ -1 := (by omega : at0 xs (k : Int) ≠ -1)
  have n2 : s ≠ -1 := (by omega : at0 c.e (at0 c.s (at0 xs (k : Int))) ≠ -1)
  have n3 : t ≠ -1 := (by omega : at0 c.e (at0 c.t (at0 xs (k : Int))) ≠ -1)
  by_cases e : j = k
  · subst e
    refine ⟨?_, ?_, m3 n3⟩
    · show f ∈ _
      have q : f ∈ f1 := m1 n1
      have q2 : f ∈ f2 := by show f ∈ addF b1 (addF bs fs f) s; rw [e2]; exact List.mem_append_left _ q
      show f ∈ addF b2 (addF b1 (addF bs fs f) s) t
      rw [e3]; exact List.mem_append_left _ q2
    · show s ∈ _
      have q2 : s ∈ f2 := m2 n2
      show s ∈ addF b2 (addF b1 (addF bs fs f) s) t
      rw [e3]; exact List.mem_append_left _ q2
  · have := hs j (by omega)
    have e4 : addF b2 f2 t = fs ++ (z1 ++ z2 ++ z3) := by
      show addF b2 (addF b1 (addF bs fs f) s) t = _
      rw [e3, e2, e1]; simp
    rw [e4]
    exact ⟨List.mem_append_left _ this.1, List.mem_append_left _ this.2.1, List.mem_append_left _ this.2.2⟩
theorem th_ok {c : Cat} {xs : List Int} {f g : Int} (hS : ShapeP c) (f0 : 0 ≤ f) (f1 : f < c.s.length) (g0 : 0 ≤ g) (g1 : g < c.s.length) (hf : Gen c xs f) (hg : Gen c xs g) :
    (c.th f g = -1 ∨ (0 ≤ c.th f g ∧ c.th f g < c.s.length ∧ Gen c xs (c.th f g))) ∧ (at0 c.t f = at0 c.s g → c.th f g ≠ -1) := by
  by_cases he : at0 c.t f = at0 c.s g
  · have ht := (th_ends hS f0 f1 g0 g1 he).1
    exact ⟨.inr ⟨ht.1, ht.2, .comp hf hg he⟩, fun _ => by have := ht.1; omega⟩
  · obtain ⟨a, rfl⟩ := Int.eq_ofNat_of_zero_le f0
    obtain ⟨b, rfl⟩ := Int.eq_ofNat_of_zero_le g0
    exact ⟨.inl ((hS.co a b (by omega) (by omega)).2 he), fun h => absurd h he⟩
/-- Two of the arrows found are composed in both orders. -/
theorem doneF_step {c : Cat} {xs fs : List Int} {bs : List Bool} {i j : Nat} (hS : ShapeP c) (hi : i < fs.length) (hj : j ≤ i) (h : GI c xs bs fs) (hs : SeedF c xs fs xs.length) (hd : DoneF c fs i j) :
    let v := c.th (at0 fs (i : Int)) (at0 fs (j : Int))
    let b1 := addB bs v; let f1 := addF bs fs v
    let u := c.th (at0 f1 (j : Int)) (at0 f1 (i : Int))
    GI c xs b1 f1 ∧ fs.length ≤ f1.length ∧ fs.length ≤ (addF b1 f1 u).length ∧ GI c xs (addB b1 u) (addF b1 f1 u) ∧ SeedF c xs (addF b1 f1 u) xs.length ∧ DoneF c (addF b1 f1 u) i (j + 1) := by
  intro v b1 f1 u
  have hia : at0 fs (i : Int) ∈ fs := at0_memC hi
  have hja : at0 fs (j : Int) ∈ fs := at0_memC (by omega)
  obtain ⟨i0, i1, ig⟩ := h.sn _ hia
  obtain ⟨j0, j1, jg⟩ := h.sn _ hja
  obtain ⟨hv, hv2⟩ := th_ok hS i0 i1 j0 j1 ig jg
  obtain ⟨hu, hu2⟩ := th_ok hS j0 j1 i0 i1 jg ig
  obtain ⟨g1, ⟨z1, e1⟩, m1⟩ := gi_add (f := v) h hv
  have k1 : at0 f1 (i : Int) = at0 fs (i : Int) := by show at0 (addF bs fs v) _ = _; rw [e1, at0_app hi]
  have k2 : at0 f1 (j : Int) = at0 fs (j : Int) := by show at0 (addF bs fs v) _ = _; rw [e1, at0_app (by omega)]
  have hue : u = c.th (at0 fs (j : Int)) (at0 fs (i : Int)) := by show c.th (at0 f1 (j : Int)) (at0 f1 (i : Int)) = _; rw [k1, k2]
  rw [← hue] at hu hu2
  obtain ⟨g2, ⟨z2, e2⟩, m2⟩ := gi_add (f := u) g1 hu
  have e3 : addF b1 f1 u = fs ++ (z1 ++ z2) := by show addF b1 (addF bs fs v) u = _; rw [e2, e1]; simp
  have l1 : fs.length ≤ f1.length := by show _ ≤ (addF bs fs v).length; rw [e1]; simp
  have l2 : fs.length ≤ (addF b1 f1 u).length := by rw [e3]; simp
  refine ⟨g1, l1, l2, g2, by rw [e3]; exact seedF_mono _ hs, ?_⟩
  have hd2 := doneF_mono (z1 ++ z2) hi (by omega) hd
  refine ⟨by rw [e3]; exact hd2.1, fun b hb => ?_⟩
  by_cases e : b = j
  · subst e
    have q1 : at0 (addF b1 f1 u) (i : Int) = at0 fs (i : Int) := by rw [e3, at0_app hi]
    have q2 : at0 (addF b1 f1 u) (b : Int) = at0 fs (b : Int) := by rw [e3, at0_app (by omega)]
    unfold PairD
    rw [q1, q2]
    refine ⟨fun he => ?_, fun he => ?_⟩
    · have : v ∈ addF bs fs v := m1 (hv2 he)
      show v ∈ addF b1 (addF bs fs v) u
      rw [e2]; exact List.mem_append_left _ this
    · have := m2 (hu2 he)
      rw [← hue]; exact this
  · rw [e3]; exact hd2.2 b (by omega)
theorem gi_all {c : Cat} {xs fs : List Int} {bs : List Bool} (hS : ShapeP c) (hx : AllP c.s.length xs) (h : GI c xs bs fs) (hs : SeedF c xs fs xs.length) (hd : DoneF c fs fs.length 0) : ∀ x, Gen c xs x → x ∈ fs := by
  intro x hg
  induction hg with
  | of hm => obtain ⟨j, hj, rfl⟩ := mem_at0C hm; exact (hs j hj).1
  | src hm => obtain ⟨j, hj, rfl⟩ := mem_at0C hm; exact (hs j hj).2.1
  | tgt hm => obtain ⟨j, hj, rfl⟩ := mem_at0C hm; exact (hs j hj).2.2
  | comp _ _ he ih1 ih2 =>
    obtain ⟨a, ha, rfl⟩ := mem_at0C ih1
    obtain ⟨b, hb, rfl⟩ := mem_at0C ih2
    rcases Nat.le_total b a with hab | hab
    · exact (hd.1 a b ha hab).1 he
    · exact (hd.1 b a hb hab).2 he
theorem gi_sorted {c : Cat} {xs fs : List Int} {bs : List Bool} (hS : ShapeP c) (hx : AllP c.s.length xs) (h : GI c xs bs fs) (hs : SeedF c xs fs xs.length) (hd : DoneF c fs fs.length 0) : (fs.mergeSort fun x y => decide (x ≤ y)) = genL c xs c.s.length := by
  refine genL_of (found := fs) (List.mergeSort_perm ..) ?_ h.nd fun x => ⟨fun hm => ⟨(h.sn x hm).2.2, (h.sn x hm).1, (h.sn x hm).2.1⟩, fun hg => gi_all hS hx h hs hd x hg.1⟩
  have := List.pairwise_mergeSort (le := fun x y : Int => decide (x ≤ y)) (fun a b c h1 h2 => by simp at *; omega) (fun a b => by simp; omega) fs
  exact this.imp (by simp)
end

section
section
variable {w0 : World} {is : List Itm} {ops : Array Oper} {Q : Exit → Act → World → Prop} {o : Oper} {N n : Nat} {e : Env} {v : Value} {d : Nat} {K : Act → World → Prop} {f : FuncId} {fn : Func} {ags : Array Operand} {ts : Array TypeId} {vs : List Value}
theorem go_sort {xs : List Int} (hd : o.dst = some d) (hN : Nat.blt d N = true) (hop : o.op = .call { callee := .value (.func f), args := ags, argTypes := ts }) (hfn : Try.prog.funcs[f]? = some fn) (hb : fn.body.isNone = false) (hnm : (fn.name == "runtime.NumGoroutine") = false)
  (hargs : evoL e ags.toList = some [v]) (hf : f = 154) (hi : is[n]? = some (own1I v xs)) (hk : GK w0 (is.set n (own1I v (xs.mergeSort fun x y => decide (x ≤ y)))) N K ((d, .tuple #[]) :: e)) : GO w0 is N o e Q K := by
 subst hf
 intro w a M F
 obtain ⟨S, hS, h1, hset⟩ := mem_set M hi
 refine go_call hd hN F hop hfn hb hnm hargs (sort_any w 0 v xs h1.1) fun e' w' hR => ?_
 obtain ⟨rfl, hs, hg⟩ := hR
 exact ⟨_, rfl, fun a F => hk w' a (hset w' (own1I v _) (frS_grown hg h1.2) ⟨hs, fun q hq => .inl (h1.2 q hq)⟩) F⟩
end
theorem addB_len (bs : List Bool) (f : Int) : (addB bs f).length = bs.length := by unfold addB; split <;> simp
theorem addF_len (bs : List Bool) (fs : List Int) (f : Int) : (addF bs fs f).length ≤ fs.length + 1 := by unfold addF; split <;> simp

set_option maxHeartbeats 1000000 in
set_option maxRecDepth 100000 in
theorem genAdd_any (w0 w : World) (j0 : Itm) (F : List Itm) (B1 B2 B3 n q : Nat) (a : Option Addr) (bs : List Bool) (fs : List Int) (f : Int) (hf : f = -1 ∨ (0 ≤ f ∧ f < bs.length)) (hbl : bs.length = n) (hfl : fs.length ≤ 1000) (M : Mem w0 w [j0, bxI B2 22 [.slice a fs.length q], ownBI (.slice (some ⟨B3, 0, none⟩) n n) bs, bxI B1 121 [.slice (some ⟨B3, 0, none⟩) n n], own1I (.slice a fs.length q) fs, tailI F]) :
  Calls Try.prog 152 #[.int .i64 f, .pointer (some ⟨B1, 0, none⟩), .pointer (some ⟨B2, 0, none⟩)] w (fun e w' => e = .returned (.tuple #[]) ∧ ∃ (a' : Option Addr) (q' : Nat), Mem w0 w' [j0, bxI B2 22 [.slice a' (addF bs fs f).length q'], ownBI (.slice (some ⟨B3, 0, none⟩) n n) (addB bs f), bxI B1 121 [.slice (some ⟨B3, 0, none⟩) n n], own1I (.slice a' (addF bs fs f).length q') (addF bs fs f), tailI F]) := by
 go_enter Try.func152, Try.ntmps152
 refine gc_enterM M (N := 20) rfl (look_cons (k := 0) rfl (look_cons (k := 1) rfl (look_cons (k := 2) rfl (look_nil _)))) ?_
 clear M
 refine gc_sr fun K1 hK1 => ?_
 refine gm ?_
 refine gv (qt_neq rfl rfl rfl) ?_
 refine g_splitv (.free rfl) rfl rfl (qt_move rfl rfl) (fun hs0_2 => ?_) (fun hs0_2 => ?_)
 ·try simp only [sA] at hs0_2
  refine gvh (qtl Try.underlying121 (n := 3)) ?_
  refine gvh (qt_move rfl rfl) ?_
  refine gvh (qt_index rfl rfl rfl ulEB szEB (fun w M => lenA_B (n := 2) rfl M) (by omega) (by omega)) ?_
  refine gvh (qt_loadBool (n := 2) rfl rfl Try.underlying4 rfl rfl (by omega) (by omega)) ?_
  refine gvh (qt_not rfl rfl) ?_
  refine gv (qt_pick_t rfl rfl rfl) ?_
  refine gnt (hK1 _ _ ?_)
  refine gc_cond rfl (fun hc0 => ?_) (fun hc0 => ?_)
  ·try simp only [sA] at hc0
   refine gc_sr fun K2 hK2 => ?_
   refine gv (qtl Try.underlying121 (n := 3)) ?_
   refine gm ?_
   refine gv (qt_index rfl rfl rfl ulEB szEB (fun w M => lenA_B (n := 2) rfl M) (by omega) (by omega)) ?_
   refine gop fun K3 hK3 => ?_
   refine go_storeBool (n := 2) rfl rfl rfl rfl (by kernel_rfl) rfl (by omega) (by omega) ?_
   refine hK3 _ _ ?_
   refine gnt (hK2 _ _ ?_)
   refine gc_region ?_
   refine gv (qtl Try.underlying22 (n := 1)) ?_
   refine gm ?_
   refine gop fun K5 hK5 => ?_
   refine go_slice1 rfl rfl rfl rfl Try.underlying22 ?_
   intro B4
   refine hK5 _ _ ?_
   refine gop fun K7 hK7 => ?_
   refine go_append (n := 4) (m := 6) rfl rfl rfl Try.underlying22 rfl rfl rfl rfl (by omega) ?_
   intro va6 vc6
   refine hK7 _ _ ?_
   refine gop fun K8 hK8 => ?_
   refine go_storeB (n := 1) rfl rfl rfl rfl (by kernel_rfl) rfl rfl rfl (by first | decide | simp) ?_
   refine hK8 _ _ ?_
   refine g_nil ?_
   refine ret_0n rfl (fun w M => ?_)
   rw [addF_t hs0_2 hc0, addB_t hs0_2 hc0]; exact ⟨rfl, _, _, mem_take 6 M⟩
  ·try simp only [sA] at hc0
   refine gc_skip ?_
   refine ret_0n rfl (fun w M => ?_)
   rw [addF_f (.inr hc0), addB_f (.inr hc0)]; exact ⟨rfl, _, _, M⟩
 ·try simp only [sA] at hs0_2
  refine gsk ?_
  refine gsk ?_
  refine gsk ?_
  refine gsk ?_
  refine gsk ?_
  refine gv (qt_pick_f rfl rfl rfl) ?_
  refine gnt (hK1 _ _ ?_)
  refine gc_cond_f rfl ?_
  refine gc_skip ?_
  refine ret_0n rfl (fun w M => ?_)
  rw [addF_f (.inl hs0_2), addB_f (.inl hs0_2)]; exact ⟨rfl, _, _, M⟩

set_option maxHeartbeats 1000000 in
set_option maxRecDepth 100000 in
theorem gen_any (w : World) (v u : Value) (c : Cat) (xs : List Int) (h : RdC w v c) (hS : ShapeP c) (hu : Rd w u xs) (hx : AllP c.s.length xs) :
  Calls Try.prog 131 #[v, u] w (RetL w (genL c xs c.s.length)) := by
 have h0 := h
 obtain ⟨va, vb, vc, vd, ve, vf, vg, vh, rfl, h1, h2, h3, h4, _⟩ := h.lists
 obtain ⟨ua, uc, rfl⟩ := rd_form hu
 have hn40 := hS.n40; have htl := hS.tl; have hel := hS.el; have hob0 := hS.ob0; have hob8 := hS.ob8; have hml := hS.ml
 have hxl : xs.length ≤ 17592186044415 := by obtain ⟨_, _, _, hl, _⟩ := hu; exact hl
 go_enter Try.func131, Try.ntmps131
 refine gc_enter (N := 76) rfl (look_cons (k := 0) rfl (look_cons (k := 1) rfl (look_nil _))) ?_
 refine gc_sr fun K1 hK1 => ?_
 refine gop fun K3 hK3 => ?_
 refine go_box rfl rfl rfl rfl rfl ?_
 intro B2
 refine hK3 _ _ ?_
 refine gas ?_
 refine gnt (hK1 _ _ ?_)
 refine gc_sr fun K4 hK4 => ?_
 refine gop fun K6 hK6 => ?_
 refine go_alloc (z := (.slice none 0 0)) (cs := [.slice none 0 0]) rfl rfl rfl (fun w => by kernel_rfl) rfl ?_
 intro B5
 refine hK6 _ _ ?_
 refine gnt (hK4 _ _ ?_)
 refine gc_sr fun K7 hK7 => ?_
 refine gv (qts Try.underlying29 (n := 0)) ?_
 refine g_q (.free rfl) rfl rfl (qt_call rfl Try.func61 rfl (by decide) rfl (fun w M => arrows_any w _ _ (mem_rdC M h0))) ?_
 refine gop fun K9 hK9 => ?_
 refine go_makeB rfl rfl rfl Try.underlying121 rfl rfl (by omega) ?_
 intro B8
 refine hK9 _ _ ?_
 refine gop fun K11 hK11 => ?_
 refine go_alloc (z := (.slice none 0 0)) (cs := [.slice none 0 0]) rfl rfl rfl (fun w => by kernel_rfl) rfl ?_
 intro B10
 refine hK11 _ _ ?_
 refine gop fun K12 hK12 => ?_
 refine go_storeB (n := 3) rfl rfl rfl rfl (by kernel_rfl) rfl rfl rfl (by first | decide | simp) ?_
 refine hK12 _ _ ?_
 refine gnt (hK7 _ _ ?_)
 refine gc_sr fun K13 hK13 => ?_
 refine g_nilS ?_
 refine gv (qt_makeF rfl rfl) ?_
 refine gas ?_
 refine gnt (hK13 _ _ ?_)
 refine gc_seq fun K14 hK14 => ?_
 refine gc_sr fun K15 hK15 => ?_
 refine gm ?_
 refine gv (qln (fun w M => lenV_rd hu)) ?_
 refine gm ?_
 refine gnt (hK15 _ _ ?_)
 refine gc_block ?_
 try simp only [sL]
 refine gc_loopT ([(0, _), (1, _), (2, _), (4, _), (5, _), (6, _), (7, _), (17, _), (18, _)] : Env) (fun s : Nat × (List Bool) × (List Int) × (Option Addr) × Nat => (fun (k : Nat) (bs : List Bool) (fs : List Int) (a : Option Addr) (q : Nat) => (([(19, .int .i64 (k : Int))] : Env), ([(1, bxI B5 22 [.slice a fs.length q]), (2, ownBI (.slice (some ⟨B8, 0, none⟩) c.s.length c.s.length) bs), (4, own1I (.slice a fs.length q) fs)] : List (Nat × Itm)), k ≤ xs.length ∧ GI c xs bs fs ∧ SeedF c xs fs k, xs.length - k)) s.1 s.2.1 s.2.2.1 s.2.2.2.1 s.2.2.2.2) (0, List.replicate c.s.length false, [], none, 0) (by repeat first | exact sub_nil | refine sub_cons rfl ?_) rfl ⟨Nat.zero_le _, gi_zero c xs, fun j hj => absurd hj (by omega)⟩ ?_
 rintro ⟨k, bs, fs, a, q⟩ hinv KL16 hKL16
 simp only [sU, sL] at hinv hKL16 ⊢
 obtain ⟨hk, hgi, hsd⟩ := hinv
 refine gc_sr fun K17 hK17 => ?_
 refine gv (qt_lss rfl rfl rfl) ?_
 refine gnt (hK17 _ _ ?_)
 refine gc_seq fun K18 hK18 => ?_
 refine gc_cond rfl (fun hc0 => ?_) (fun hc0 => ?_)
 ·try simp only [sA] at hc0
  refine gc_skip ?_
  refine gk_then (hK18 _ _ ?_)
  refine gc_seq fun K19 hK19 => ?_
  refine gc_block ?_
  refine gc_sr fun K20 hK20 => ?_
  refine gv (qti (fun w M => lenA_rd hu)) ?_
  refine gv (qtd (fun w M => mem_rd M hu)) ?_
  refine gas ?_
  refine gnt (hK20 _ _ ?_)
  refine gc_seq fun K21 hK21 => ?_
  have hq := seed_pos hS hx (j := k) (by omega)
  obtain ⟨p0, p1, p2, p3, p4, p5⟩ := hq
  have hA := arrP hS p0 p1
  have a1 := hA.fs; have a2 := hA.ft; have a3 := hA.s0; have a4 := hA.s1; have a5 := hA.t0; have a6 := hA.t1
  have hbl := hgi.bl; have hfl := gi_len hgi
  refine gc_region ?_
  refine gv (qts Try.underlying29 (n := 0)) ?_
  refine gm ?_
  refine g_q (.free rfl) rfl rfl (qt_call rfl Try.func153 rfl (by decide) rfl (fun w M => units_any w _ _ _ (mem_rdC M h0) (by first | assumption | omega))) ?_
  refine gop fun K23 hK23 => ?_
  refine go_alloc (z := (.agg #[.int .i64 0, .int .i64 0])) (cs := [.int .i64 0, .int .i64 0]) rfl rfl rfl (fun w => by kernel_rfl) rfl ?_
  intro B22
  refine hK23 _ _ ?_
  refine gop fun K24 hK24 => ?_
  refine go_storeS (n := 5) rfl rfl rfl rfl (by kernel_rfl) rfl rfl rfl ?_
  refine hK24 _ _ ?_
  refine gnt (hK21 _ _ ?_)
  refine gc_sr fun K25 hK25 => ?_
  refine gm ?_
  refine gm ?_
  refine gop fun K27 hK27 => ?_
  refine go_clo 5 (L := [_, _, _, _, _]) (α := Option Addr) (β := Nat) rfl rfl rfl rfl Try.func152 rfl (by decide) rfl rfl rfl (fun w M => genAdd_any _ w _ _ _ _ _ _ _ _ _ _ _ (by first | exact hv.imp id (fun z => ⟨z.1, by omega⟩) | exact hw.imp id (fun z => ⟨z.1, by simp only [addB_len]; omega⟩) | (right; simp only [addB_len]; omega) | (right; omega)) (by first | (simp only [addB_len]; first | assumption | omega) | assumption | omega) (by first | omega | assumption) M) (fun _ _ => rfl) ?_
  intro va26 vc26; simp only [List.take_succ_cons, List.take_zero, List.cons_append, List.nil_append]
  refine hK27 _ _ ?_
  refine gnt (hK25 _ _ ?_)
  refine gc_seq fun K28 hK28 => ?_
  have f1 := addF_len bs fs (at0 xs (k : Int))
  refine gc_region ?_
  refine gm ?_
  refine gv (qtf Try.underlying85 (z := 0) (off := 0)) ?_
  refine gv (qtl Try.underlying2 (n := 5)) ?_
  refine gop fun K30 hK30 => ?_
  refine go_clo 5 (L := [_, _, _, _, _]) (α := Option Addr) (β := Nat) rfl rfl rfl rfl Try.func152 rfl (by decide) rfl rfl rfl (fun w M => genAdd_any _ w _ _ _ _ _ _ _ _ _ _ _ (by first | exact hv.imp id (fun z => ⟨z.1, by omega⟩) | exact hw.imp id (fun z => ⟨z.1, by simp only [addB_len]; omega⟩) | (right; simp only [addB_len]; omega) | (right; omega)) (by first | (simp only [addB_len]; first | assumption | omega) | assumption | omega) (by first | omega | assumption) M) (fun _ _ => rfl) ?_
  intro va29 vc29; simp only [List.take_succ_cons, List.take_zero, List.cons_append, List.nil_append]
  refine hK30 _ _ ?_
  refine gnt (hK28 _ _ ?_)
  have f2 := addF_len (addB bs (at0 xs (k : Int))) (addF bs fs (at0 xs (k : Int))) (at0 c.e (at0 c.s (at0 xs (k : Int))))
  refine gc_region ?_
  refine gm ?_
  refine gv (qtf Try.underlying85 (z := 0) (off := 1)) ?_
  refine gv (qtl Try.underlying2 (n := 5)) ?_
  refine gop fun K32 hK32 => ?_
  refine go_clo 5 (L := [_, _, _, _, _]) (α := Option Addr) (β := Nat) rfl rfl rfl rfl Try.func152 rfl (by decide) rfl rfl rfl (fun w M => genAdd_any _ w _ _ _ _ _ _ _ _ _ _ _ (by first | exact hv.imp id (fun z => ⟨z.1, by omega⟩) | exact hw.imp id (fun z => ⟨z.1, by simp only [addB_len]; omega⟩) | (right; simp only [addB_len]; omega) | (right; omega)) (by first | (simp only [addB_len]; first | assumption | omega) | assumption | omega) (by first | omega | assumption) M) (fun _ _ => rfl) ?_
  intro va31 vc31; simp only [List.take_succ_cons, List.take_zero, List.cons_append, List.nil_append]
  refine hK32 _ _ ?_
  refine g_nil ?_
  refine gk_block ?_
  refine gk_then (hK19 _ _ ?_)
  refine gc_region ?_
  refine gv (qt_add rfl rfl rfl (by omega)) ?_
  refine gm ?_
  refine g_nil ?_
  refine gk_then (gk_take 5 ?_)
  refine gk_sub ?hs_33 (hKL16 (k + 1, _, _, _, _) ?hi_33 ?hm_33)
  case hs_33 => repeat first | exact sub_nil | refine sub_cons rfl ?_
  case hi_33 => have hn := seedF_step hS hx (by omega) hgi hsd; exact ⟨by omega, hn⟩
  case hm_33 => omega
 ·try simp only [sA] at hc0
  refine gc_exit ?_
  refine gk_then_exit ?_
  refine gk_then_exit ?_
  refine gk_block_hit ?_
  refine gk_then (hK14 _ _ ?_)
  refine gc_seq fun K34 hK34 => ?_
  refine gc_sr fun K35 hK35 => ?_
  refine gas ?_
  refine gnt (hK35 _ _ ?_)
  refine gc_block ?_
  obtain rfl : k = xs.length := by omega
  try simp only [sL]
  refine gc_loopT ([(0, _), (1, _), (2, _), (4, _), (5, _), (6, _), (7, _), (17, _), (18, _), (19, _), (20, _)] : Env) (fun s : Nat × (List Bool) × (List Int) × (Option Addr) × Nat => (fun (i : Nat) (bs1 : List Bool) (fs1 : List Int) (b : Option Addr) (q1 : Nat) => (([(11, .int .i64 (i : Int))] : Env), ([(1, bxI B5 22 [.slice b fs1.length q1]), (2, ownBI (.slice (some ⟨B8, 0, none⟩) c.s.length c.s.length) bs1), (4, own1I (.slice b fs1.length q1) fs1)] : List (Nat × Itm)), i ≤ fs1.length ∧ GI c xs bs1 fs1 ∧ SeedF c xs fs1 xs.length ∧ DoneF c fs1 i 0, c.s.length - i)) s.1 s.2.1 s.2.2.1 s.2.2.2.1 s.2.2.2.2) (0, bs, fs, a, q) (by repeat first | exact sub_nil | refine sub_cons rfl ?_) rfl ⟨Nat.zero_le _, hgi, hsd, doneF_zero c fs⟩ ?_
  rintro ⟨i, bs1, fs1, b, q1⟩ hinv KL36 hKL36
  simp only [sU, sL] at hinv hKL36 ⊢
  obtain ⟨hi, hgi1, hsd1, hdn1⟩ := hinv
  have hfl1 := gi_len hgi1
  refine gc_seq fun K37 hK37 => ?_
  refine gc_sr fun K38 hK38 => ?_
  refine gm ?_
  refine gv (qtl Try.underlying22 (n := 1)) ?_
  refine gv (qln (fun w M => lenV_own1 (n := 4) rfl M)) ?_
  refine gv (qt_lss rfl rfl rfl) ?_
  refine gnt (hK38 _ _ ?_)
  refine gc_cond rfl (fun hc1 => ?_) (fun hc1 => ?_)
  ·try simp only [sA] at hc1
   refine gc_skip ?_
   refine gk_then (hK37 _ _ ?_)
   refine gc_seq fun K39 hK39 => ?_
   refine gc_block ?_
   refine gc_sr fun K40 hK40 => ?_
   refine gas ?_
   refine gnt (hK40 _ _ ?_)
   refine gc_block ?_
   try simp only [sL]
   refine gc_loopT ([(0, _), (1, _), (2, _), (4, _), (5, _), (6, _), (7, _), (11, _), (17, _), (18, _), (19, _), (20, _), (41, _)] : Env) (fun s : Nat × (List Bool) × (List Int) × (Option Addr) × Nat => (fun (j : Nat) (bs2 : List Bool) (fs2 : List Int) (b2 : Option Addr) (q2 : Nat) => (([(12, .int .i64 (j : Int))] : Env), ([(1, bxI B5 22 [.slice b2 fs2.length q2]), (2, ownBI (.slice (some ⟨B8, 0, none⟩) c.s.length c.s.length) bs2), (4, own1I (.slice b2 fs2.length q2) fs2)] : List (Nat × Itm)), j ≤ i + 1 ∧ i < fs2.length ∧ GI c xs bs2 fs2 ∧ SeedF c xs fs2 xs.length ∧ DoneF c fs2 i j, i + 1 - j)) s.1 s.2.1 s.2.2.1 s.2.2.2.1 s.2.2.2.2) (0, bs1, fs1, b, q1) (by repeat first | exact sub_nil | refine sub_cons rfl ?_) rfl ⟨Nat.zero_le _, (by show i < fs1.length; omega), hgi1, hsd1, hdn1⟩ ?_
   rintro ⟨j, bs2, fs2, b2, q2⟩ hinv KL41 hKL41
   simp only [sU, sL] at hinv hKL41 ⊢
   obtain ⟨hj, hi2, hgi2, hsd2, hdn2⟩ := hinv
   have hfl2 := gi_len hgi2
   refine gc_seq fun K42 hK42 => ?_
   refine gc_sr fun K43 hK43 => ?_
   refine gm ?_
   refine gm ?_
   refine gv (qt_leq rfl rfl rfl) ?_
   refine gnt (hK43 _ _ ?_)
   refine gc_cond rfl (fun hc2 => ?_) (fun hc2 => ?_)
   ·try simp only [sA] at hc2
    refine gc_skip ?_
    refine gk_then (hK42 _ _ ?_)
    refine gc_seq fun K44 hK44 => ?_
    refine gc_block ?_
    refine gc_seq fun K45 hK45 => ?_
    obtain ⟨i0, i1, ig⟩ := hgi2.sn _ (at0_memC hi2)
    obtain ⟨j0, j1, jg⟩ := hgi2.sn _ (at0_memC (show j < fs2.length by omega))
    obtain ⟨hv, hv2⟩ := th_ok hS i0 i1 j0 j1 ig jg
    have hbl := hgi2.bl; have hfl := gi_len hgi2
    have r4 := (arrP hS i0 i1).row
    try simp only [sL]
    refine gc_cut ([(0, _), (1, _), (2, _), (4, _), (5, _), (6, _), (7, _), (11, _), (12, _), (17, _), (18, _), (19, _), (20, _), (41, _), (46, _)] : Env) (fun s : (Option Addr) × Nat => (fun (b3 : Option Addr) (q3 : Nat) => ([] : Env)) s.1 s.2) (fun s : (Option Addr) × Nat => (fun (b3 : Option Addr) (q3 : Nat) => ([(1, bxI B5 22 [.slice b3 (addF bs2 fs2 (c.th (at0 fs2 (i : Int)) (at0 fs2 (j : Int)))).length q3]), (2, ownBI (.slice (some ⟨B8, 0, none⟩) c.s.length c.s.length) (addB bs2 (c.th (at0 fs2 (i : Int)) (at0 fs2 (j : Int))))), (4, own1I (.slice b3 (addF bs2 fs2 (c.th (at0 fs2 (i : Int)) (at0 fs2 (j : Int)))).length q3) (addF bs2 fs2 (c.th (at0 fs2 (i : Int)) (at0 fs2 (j : Int)))))] : List (Nat × Itm))) s.1 s.2) (fun s : (Option Addr) × Nat => (fun (b3 : Option Addr) (q3 : Nat) => ([] : List Itm)) s.1 s.2) (by repeat first | exact sub_nil | refine sub_cons rfl ?_) ?_ (fun HJ46 => ?_)
    ·rintro ⟨b3, q3⟩
     simp only [sU, sL]
     refine gk_then (hK45 _ _ ?_)
     have hn := doneF_step hS hi2 (by omega) hgi2 hsd2 hdn2
     dsimp only at hn
     obtain ⟨g1, l1, l2, g2, s2, d2⟩ := hn
     obtain ⟨x0, x1, xg⟩ := g1.sn _ (at0_memC (show i < _ by omega))
     obtain ⟨y0, y1, yg⟩ := g1.sn _ (at0_memC (show j < _ by omega))
     obtain ⟨hw, hw2⟩ := th_ok hS y0 y1 x0 x1 yg xg
     have hfl1 := gi_len g1
     have r5 := (arrP hS y0 y1).row
     try simp only [sL]
     refine gc_cut ([(0, _), (1, _), (2, _), (4, _), (5, _), (6, _), (7, _), (11, _), (12, _), (17, _), (18, _), (19, _), (20, _), (41, _), (46, _)] : Env) (fun s : (Option Addr) × Nat => (fun (b4 : Option Addr) (q4 : Nat) => ([] : Env)) s.1 s.2) (fun s : (Option Addr) × Nat => (fun (b4 : Option Addr) (q4 : Nat) => ([(1, bxI B5 22 [.slice b4 (addF (addB bs2 (c.th (at0 fs2 (i : Int)) (at0 fs2 (j : Int)))) (addF bs2 fs2 (c.th (at0 fs2 (i : Int)) (at0 fs2 (j : Int)))) (c.th (at0 (addF bs2 fs2 (c.th (at0 fs2 (i : Int)) (at0 fs2 (j : Int)))) (j : Int)) (at0 (addF bs2 fs2 (c.th (at0 fs2 (i : Int)) (at0 fs2 (j : Int)))) (i : Int)))).length q4]), (2, ownBI (.slice (some ⟨B8, 0, none⟩) c.s.length c.s.length) (addB (addB bs2 (c.th (at0 fs2 (i : Int)) (at0 fs2 (j : Int)))) (c.th (at0 (addF bs2 fs2 (c.th (at0 fs2 (i : Int)) (at0 fs2 (j : Int)))) (j : Int)) (at0 (addF bs2 fs2 (c.th (at0 fs2 (i : Int)) (at0 fs2 (j : Int)))) (i : Int))))), (4, own1I (.slice b4 (addF (addB bs2 (c.th (at0 fs2 (i : Int)) (at0 fs2 (j : Int)))) (addF bs2 fs2 (c.th (at0 fs2 (i : Int)) (at0 fs2 (j : Int)))) (c.th (at0 (addF bs2 fs2 (c.th (at0 fs2 (i : Int)) (at0 fs2 (j : Int)))) (j : Int)) (at0 (addF bs2 fs2 (c.th (at0 fs2 (i : Int)) (at0 fs2 (j : Int)))) (i : Int)))).length q4) (addF (addB bs2 (c.th (at0 fs2 (i : Int)) (at0 fs2 (j : Int)))) (addF bs2 fs2 (c.th (at0 fs2 (i : Int)) (at0 fs2 (j : Int)))) (c.th (at0 (addF bs2 fs2 (c.th (at0 fs2 (i : Int)) (at0 fs2 (j : Int)))) (j : Int)) (at0 (addF bs2 fs2 (c.th (at0 fs2 (i : Int)) (at0 fs2 (j : Int)))) (i : Int)))))] : List (Nat × Itm))) s.1 s.2) (fun s : (Option Addr) × Nat => (fun (b4 : Option Addr) (q4 : Nat) => ([] : List Itm)) s.1 s.2) (by repeat first | exact sub_nil | refine sub_cons rfl ?_) ?_ (fun HJ47 => ?_)
     ·rintro ⟨b4, q4⟩
      simp only [sU, sL]
      refine gk_block ?_
      refine gk_then (hK44 _ _ ?_)
      refine gc_region ?_
      refine gm ?_
      refine gv (qt_add rfl rfl rfl (by omega)) ?_
      refine gas ?_
      refine g_nil ?_
      refine gk_then (gk_take 5 ?_)
      refine gk_sub ?hs_48 (hKL41 (j + 1, _, _, _, _) ?hi_48 ?hm_48)
      case hs_48 => repeat first | exact sub_nil | refine sub_cons rfl ?_
      case hi_48 => exact ⟨by omega, Nat.lt_of_lt_of_le hi2 l2, g2, s2, d2⟩
      case hm_48 => omega
     simp only [sU, sL] at HJ47
     refine ga_start _ (fun w M => mem_erase 1 (mem_erase 2 (mem_erase 4 (M)))) ?_
     refine gav 0 rfl (qt_move rfl rfl) ?_
     refine gav 1 rfl (qts Try.underlying29 (n := 0)) ?_
     refine gav 3 rfl (qt_move rfl rfl) ?_
     refine gav 7 rfl (qt_move rfl rfl) ?_
     refine ga_two 2 6 (by kernel_rfl) rfl rfl (.free rfl) (.free rfl) (fun K49 hK49 => ?_) (fun K49 hK49 => ?_)
     ·refine gov (qtl Try.underlying22 (n := 1)) ?_
      refine hK49 _ _ (fun w M => (mem_erase 1 (mem_erase 2 (mem_erase 4 (mem_take 5 M))) :)) ?_
      refine ga_two 4 6 (by kernel_rfl) rfl rfl (.free rfl) (.free rfl) (fun K51 hK51 => ?_) (fun K51 hK51 => ?_)
      ·refine gov (qti (fun w M => lenA_own1 (n := 4) rfl M)) ?_
       refine hK51 _ _ (fun w M => (mem_erase 1 (mem_erase 2 (mem_erase 4 (mem_take 5 M))) :)) ?_
       refine ga_two 5 6 (by kernel_rfl) rfl rfl (.free rfl) (.free rfl) (fun K53 hK53 => ?_) (fun K53 hK53 => ?_)
       ·refine gov (qtd (fun w M => (mem_own1 (n := 4) M rfl).rd)) ?_
        refine hK53 _ _ (fun w M => (mem_erase 1 (mem_erase 2 (mem_erase 4 (mem_take 5 M))) :)) ?_
        refine gao 6 fun K55 hK55 => ?_
        refine gov (qtl Try.underlying22 (n := 1)) ?_
        refine hK55 _ _ (fun w M => (mem_erase 1 (mem_erase 2 (mem_erase 4 (mem_take 5 M))) :)) ?_
        refine gao 8 fun K56 hK56 => ?_
        refine gov (qti (fun w M => lenA_own1 (n := 4) rfl M)) ?_
        refine hK56 _ _ (fun w M => (mem_erase 1 (mem_erase 2 (mem_erase 4 (mem_take 5 M))) :)) ?_
        refine gao 9 fun K57 hK57 => ?_
        refine gov (qtd (fun w M => (mem_own1 (n := 4) M rfl).rd)) ?_
        refine hK57 _ _ (fun w M => (mem_erase 1 (mem_erase 2 (mem_erase 4 (mem_take 5 M))) :)) ?_
        refine gao 10 fun K58 hK58 => ?_
        refine go_q rfl rfl (qt_call rfl Try.func97 rfl (by decide) rfl (fun w M => then_any w _ _ _ _ (mem_rdC M h0) (by first | assumption | omega) (by first | assumption | omega) (by first | assumption | omega) (by first | assumption | omega))) ?_
        refine hK58 _ _ (fun w M => (mem_erase 1 (mem_erase 2 (mem_erase 4 (mem_take 5 M))) :)) ?_
        refine gao 11 fun K60 hK60 => ?_
        refine go_clo 5 (L := [_, _, _, _, _]) (α := Option Addr) (β := Nat) rfl rfl rfl rfl Try.func152 rfl (by decide) rfl rfl rfl (fun w M => genAdd_any _ w _ _ _ _ _ _ _ _ _ _ _ (by first | exact hv.imp id (fun z => ⟨z.1, by omega⟩) | exact hw.imp id (fun z => ⟨z.1, by simp only [addB_len]; omega⟩) | (right; simp only [addB_len]; omega) | (right; omega)) (by first | (simp only [addB_len]; first | assumption | omega) | assumption | omega) (by first | omega | assumption) M) (fun _ _ => rfl) ?_
        intro va59 vc59; simp only [List.take_succ_cons, List.take_zero, List.cons_append, List.nil_append]
        refine hK60 _ _ (fun w M => (mem_erase 1 (mem_erase 2 (mem_erase 4 (mem_take 5 M))) :)) ?_
        refine ga_done (by kernel_rfl) ?_
        refine gk_pickL [0, 0, 0, 0, 0] ?_
        refine gk_sub ?hs_61 (HJ47 (_, _))
        case hs_61 => repeat first | exact sub_nil | refine sub_cons rfl ?_
       ·refine gov (qtl Try.underlying22 (n := 1)) ?_
        refine hK53 _ _ (fun w M => (mem_erase 1 (mem_erase 2 (mem_erase 4 (mem_take 5 M))) :)) ?_
        refine ga_two 5 8 (by kernel_rfl) rfl rfl (.free rfl) (.free rfl) (fun K63 hK63 => ?_) (fun K63 hK63 => ?_)
        ·refine gov (qtd (fun w M => (mem_own1 (n := 4) M rfl).rd)) ?_
         refine hK63 _ _ (fun w M => (mem_erase 1 (mem_erase 2 (mem_erase 4 (mem_take 5 M))) :)) ?_
         refine gao 8 fun K65 hK65 => ?_
         refine gov (qti (fun w M => lenA_own1 (n := 4) rfl M)) ?_
         refine hK65 _ _ (fun w M => (mem_erase 1 (mem_erase 2 (mem_erase 4 (mem_take 5 M))) :)) ?_
         refine gao 9 fun K66 hK66 => ?_
         refine gov (qtd (fun w M => (mem_own1 (n := 4) M rfl).rd)) ?_
         refine hK66 _ _ (fun w M => (mem_erase 1 (mem_erase 2 (mem_erase 4 (mem_take 5 M))) :)) ?_
         refine gao 10 fun K67 hK67 => ?_
         refine go_q rfl rfl (qt_call rfl Try.func97 rfl (by decide) rfl (fun w M => then_any w _ _ _ _ (mem_rdC M h0) (by first | assumption | omega) (by first | assumption | omega) (by first | assumption | omega) (by first | assumption | omega))) ?_
         refine hK67 _ _ (fun w M => (mem_erase 1 (mem_erase 2 (mem_erase 4 (mem_take 5 M))) :)) ?_
         refine gao 11 fun K69 hK69 => ?_
         refine go_clo 5 (L := [_, _, _, _, _]) (α := Option Addr) (β := Nat) rfl rfl rfl rfl Try.func152 rfl (by decide) rfl rfl rfl (fun w M => genAdd_any _ w _ _ _ _ _ _ _ _ _ _ _ (by first | exact hv.imp id (fun z => ⟨z.1, by omega⟩) | exact hw.imp id (fun z => ⟨z.1, by simp only [addB_len]; omega⟩) | (right; simp only [addB_len]; omega) | (right; omega)) (by first | (simp only [addB_len]; first | assumption | omega) | assumption | omega) (by first | omega | assumption) M) (fun _ _ => rfl) ?_
         intro va68 vc68; simp only [List.take_succ_cons, List.take_zero, List.cons_append, List.nil_append]
         refine hK69 _ _ (fun w M => (mem_erase 1 (mem_erase 2 (mem_erase 4 (mem_take 5 M))) :)) ?_
         refine ga_done (by kernel_rfl) ?_
         refine gk_pickL [0, 0, 0, 0, 0] ?_
         refine gk_sub ?hs_70 (HJ47 (_, _))
         case hs_70 => repeat first | exact sub_nil | refine sub_cons rfl ?_
        ·refine gov (qti (fun w M => lenA_own1 (n := 4) rfl M)) ?_
         refine hK63 _ _ (fun w M => (mem_erase 1 (mem_erase 2 (mem_erase 4 (mem_take 5 M))) :)) ?_
         refine ga_two 5 9 (by kernel_rfl) rfl rfl (.free rfl) (.free rfl) (fun K72 hK72 => ?_) (fun K72 hK72 => ?_)
         ·refine gov (qtd (fun w M => (mem_own1 (n := 4) M rfl).rd)) ?_
          refine hK72 _ _ (fun w M => (mem_erase 1 (mem_erase 2 (mem_erase 4 (mem_take 5 M))) :)) ?_
          refine gao 9 fun K74 hK74 => ?_
          refine gov (qtd (fun w M => (mem_own1 (n := 4) M rfl).rd)) ?_
          refine hK74 _ _ (fun w M => (mem_erase 1 (mem_erase 2 (mem_erase 4 (mem_take 5 M))) :)) ?_
          refine gao 10 fun K75 hK75 => ?_
          refine go_q rfl rfl (qt_call rfl Try.func97 rfl (by decide) rfl (fun w M => then_any w _ _ _ _ (mem_rdC M h0) (by first | assumption | omega) (by first | assumption | omega) (by first | assumption | omega) (by first | assumption | omega))) ?_
          refine hK75 _ _ (fun w M => (mem_erase 1 (mem_erase 2 (mem_erase 4 (mem_take 5 M))) :)) ?_
          refine gao 11 fun K77 hK77 => ?_
          refine go_clo 5 (L := [_, _, _, _, _]) (α := Option Addr) (β := Nat) rfl rfl rfl rfl Try.func152 rfl (by decide) rfl rfl rfl (fun w M => genAdd_any _ w _ _ _ _ _ _ _ _ _ _ _ (by first | exact hv.imp id (fun z => ⟨z.1, by omega⟩) | exact hw.imp id (fun z => ⟨z.1, by simp only [addB_len]; omega⟩) | (right; simp only [addB_len]; omega) | (right; omega)) (by first | (simp only [addB_len]; first | assumption | omega) | assumption | omega) (by first | omega | assumption) M) (fun _ _ => rfl) ?_
          intro va76 vc76; simp only [List.take_succ_cons, List.take_zero, List.cons_append, List.nil_append]
          refine hK77 _ _ (fun w M => (mem_erase 1 (mem_erase 2 (mem_erase 4 (mem_take 5 M))) :)) ?_
          refine ga_done (by kernel_rfl) ?_
          refine gk_pickL [0, 0, 0, 0, 0] ?_
          refine gk_sub ?hs_78 (HJ47 (_, _))
          case hs_78 => repeat first | exact sub_nil | refine sub_cons rfl ?_
         ·refine gov (qtd (fun w M => (mem_own1 (n := 4) M rfl).rd)) ?_
          refine hK72 _ _ (fun w M => (mem_erase 1 (mem_erase 2 (mem_erase 4 (mem_take 5 M))) :)) ?_
          refine gao 5 fun K80 hK80 => ?_
          refine gov (qtd (fun w M => (mem_own1 (n := 4) M rfl).rd)) ?_
          refine hK80 _ _ (fun w M => (mem_erase 1 (mem_erase 2 (mem_erase 4 (mem_take 5 M))) :)) ?_
          refine gao 10 fun K81 hK81 => ?_
          refine go_q rfl rfl (qt_call rfl Try.func97 rfl (by decide) rfl (fun w M => then_any w _ _ _ _ (mem_rdC M h0) (by first | assumption | omega) (by first | assumption | omega) (by first | assumption | omega) (by first | assumption | omega))) ?_
          refine hK81 _ _ (fun w M => (mem_erase 1 (mem_erase 2 (mem_erase 4 (mem_take 5 M))) :)) ?_
          refine gao 11 fun K83 hK83 => ?_
          refine go_clo 5 (L := [_, _, _, _, _]) (α := Option Addr) (β := Nat) rfl rfl rfl rfl Try.func152 rfl (by decide) rfl rfl rfl (fun w M => genAdd_any _ w _ _ _ _ _ _ _ _ _ _ _ (by first | exact hv.imp id (fun z => ⟨z.1, by omega⟩) | exact hw.imp id (fun z => ⟨z.1, by simp only [addB_len]; omega⟩) | (right; simp only [addB_len]; omega) | (right; omega)) (by first | (simp only [addB_len]; first | assumption | omega) | assumption | omega) (by first | omega | assumption) M) (fun _ _ => rfl) ?_
          intro va82 vc82; simp only [List.take_succ_cons, List.take_zero, List.cons_append, List.nil_append]
          refine hK83 _ _ (fun w M => (mem_erase 1 (mem_erase 2 (mem_erase 4 (mem_take 5 M))) :)) ?_
          refine ga_done (by kernel_rfl) ?_
          refine gk_pickL [0, 0, 0, 0, 0] ?_
          refine gk_sub ?hs_84 (HJ47 (_, _))
          case hs_84 => repeat first | exact sub_nil | refine sub_cons rfl ?_
      ·refine gov (qtl Try.underlying22 (n := 1)) ?_
       refine hK51 _ _ (fun w M => (mem_erase 1 (mem_erase 2 (mem_erase 4 (mem_take 5 M))) :)) ?_
       refine ga_two 4 8 (by kernel_rfl) rfl rfl (.free rfl) (.free rfl) (fun K86 hK86 => ?_) (fun K86 hK86 => ?_)
       ·refine gov (qti (fun w M => lenA_own1 (n := 4) rfl M)) ?_
        refine hK86 _ _ (fun w M => (mem_erase 1 (mem_erase 2 (mem_erase 4 (mem_take 5 M))) :)) ?_
        refine ga_two 5 8 (by kernel_rfl) rfl rfl (.free rfl) (.free rfl) (fun K88 hK88 => ?_) (fun K88 hK88 => ?_)
        ·refine gov (qtd (fun w M => (mem_own1 (n := 4) M rfl).rd)) ?_
         refine hK88 _ _ (fun w M => (mem_erase 1 (mem_erase 2 (mem_erase 4 (mem_take 5 M))) :)) ?_
         refine gao 8 fun K90 hK90 => ?_
         refine gov (qti (fun w M => lenA_own1 (n := 4) rfl M)) ?_
         refine hK90 _ _ (fun w M => (mem_erase 1 (mem_erase 2 (mem_erase 4 (mem_take 5 M))) :)) ?_
         refine gao 9 fun K91 hK91 => ?_
         refine gov (qtd (fun w M => (mem_own1 (n := 4) M rfl).rd)) ?_
         refine hK91 _ _ (fun w M => (mem_erase 1 (mem_erase 2 (mem_erase 4 (mem_take 5 M))) :)) ?_
         refine gao 10 fun K92 hK92 => ?_
         refine go_q rfl rfl (qt_call rfl Try.func97 rfl (by decide) rfl (fun w M => then_any w _ _ _ _ (mem_rdC M h0) (by first | assumption | omega) (by first | assumption | omega) (by first | assumption | omega) (by first | assumption | omega))) ?_
         refine hK92 _ _ (fun w M => (mem_erase 1 (mem_erase 2 (mem_erase 4 (mem_take 5 M))) :)) ?_
         refine gao 11 fun K94 hK94 => ?_
         refine go_clo 5 (L := [_, _, _, _, _]) (α := Option Addr) (β := Nat) rfl rfl rfl rfl Try.func152 rfl (by decide) rfl rfl rfl (fun w M => genAdd_any _ w _ _ _ _ _ _ _ _ _ _ _ (by first | exact hv.imp id (fun z => ⟨z.1, by omega⟩) | exact hw.imp id (fun z => ⟨z.1, by simp only [addB_len]; omega⟩) | (right; simp only [addB_len]; omega) | (right; omega)) (by first | (simp only [addB_len]; first | assumption | omega) | assumption | omega) (by first | omega | assumption) M) (fun _ _ => rfl) ?_
         intro va93 vc93; simp only [List.take_succ_cons, List.take_zero, List.cons_append, List.nil_append]
         refine hK94 _ _ (fun w M => (mem_erase 1 (mem_erase 2 (mem_erase 4 (mem_take 5 M))) :)) ?_
         refine ga_done (by kernel_rfl) ?_
         refine gk_pickL [0, 0, 0, 0, 0] ?_
         refine gk_sub ?hs_95 (HJ47 (_, _))
         case hs_95 => repeat first | exact sub_nil | refine sub_cons rfl ?_
        ·refine gov (qti (fun w M => lenA_own1 (n := 4) rfl M)) ?_
         refine hK88 _ _ (fun w M => (mem_erase 1 (mem_erase 2 (mem_erase 4 (mem_take 5 M))) :)) ?_
         refine ga_two 5 9 (by kernel_rfl) rfl rfl (.free rfl) (.free rfl) (fun K97 hK97 => ?_) (fun K97 hK97 => ?_)
         ·refine gov (qtd (fun w M => (mem_own1 (n := 4) M rfl).rd)) ?_
          refine hK97 _ _ (fun w M => (mem_erase 1 (mem_erase 2 (mem_erase 4 (mem_take 5 M))) :)) ?_
          refine gao 9 fun K99 hK99 => ?_
          refine gov (qtd (fun w M => (mem_own1 (n := 4) M rfl).rd)) ?_
          refine hK99 _ _ (fun w M => (mem_erase 1 (mem_erase 2 (mem_erase 4 (mem_take 5 M))) :)) ?_
          refine gao 10 fun K100 hK100 => ?_
          refine go_q rfl rfl (qt_call rfl Try.func97 rfl (by decide) rfl (fun w M => then_any w _ _ _ _ (mem_rdC M h0) (by first | assumption | omega) (by first | assumption | omega) (by first | assumption | omega) (by first | assumption | omega))) ?_
          refine hK100 _ _ (fun w M => (mem_erase 1 (mem_erase 2 (mem_erase 4 (mem_take 5 M))) :)) ?_
          refine gao 11 fun K102 hK102 => ?_
          refine go_clo 5 (L := [_, _, _, _, _]) (α := Option Addr) (β := Nat) rfl rfl rfl rfl Try.func152 rfl (by decide) rfl rfl rfl (fun w M => genAdd_any _ w _ _ _ _ _ _ _ _ _ _ _ (by first | exact hv.imp id (fun z => ⟨z.1, by omega⟩) | exact hw.imp id (fun z => ⟨z.1, by simp only [addB_len]; omega⟩) | (right; simp only [addB_len]; omega) | (right; omega)) (by first | (simp only [addB_len]; first | assumption | omega) | assumption | omega) (by first | omega | assumption) M) (fun _ _ => rfl) ?_
          intro va101 vc101; simp only [List.take_succ_cons, List.take_zero, List.cons_append, List.nil_append]
          refine hK102 _ _ (fun w M => (mem_erase 1 (mem_erase 2 (mem_erase 4 (mem_take 5 M))) :)) ?_
          refine ga_done (by kernel_rfl) ?_
          refine gk_pickL [0, 0, 0, 0, 0] ?_
          refine gk_sub ?hs_103 (HJ47 (_, _))
          case hs_103 => repeat first | exact sub_nil | refine sub_cons rfl ?_
         ·refine gov (qtd (fun w M => (mem_own1 (n := 4) M rfl).rd)) ?_
          refine hK97 _ _ (fun w M => (mem_erase 1 (mem_erase 2 (mem_erase 4 (mem_take 5 M))) :)) ?_
          refine gao 5 fun K105 hK105 => ?_
          refine gov (qtd (fun w M => (mem_own1 (n := 4) M rfl).rd)) ?_
          refine hK105 _ _ (fun w M => (mem_erase 1 (mem_erase 2 (mem_erase 4 (mem_take 5 M))) :)) ?_
          refine gao 10 fun K106 hK106 => ?_
          refine go_q rfl rfl (qt_call rfl Try.func97 rfl (by decide) rfl (fun w M => then_any w _ _ _ _ (mem_rdC M h0) (by first | assumption | omega) (by first | assumption | omega) (by first | assumption | omega) (by first | assumption | omega))) ?_
          refine hK106 _ _ (fun w M => (mem_erase 1 (mem_erase 2 (mem_erase 4 (mem_take 5 M))) :)) ?_
          refine gao 11 fun K108 hK108 => ?_
          refine go_clo 5 (L := [_, _, _, _, _]) (α := Option Addr) (β := Nat) rfl rfl rfl rfl Try.func152 rfl (by decide) rfl rfl rfl (fun w M => genAdd_any _ w _ _ _ _ _ _ _ _ _ _ _ (by first | exact hv.imp id (fun z => ⟨z.1, by omega⟩) | exact hw.imp id (fun z => ⟨z.1, by simp only [addB_len]; omega⟩) | (right; simp only [addB_len]; omega) | (right; omega)) (by first | (simp only [addB_len]; first | assumption | omega) | assumption | omega) (by first | omega | assumption) M) (fun _ _ => rfl) ?_
          intro va107 vc107; simp only [List.take_succ_cons, List.take_zero, List.cons_append, List.nil_append]
          refine hK108 _ _ (fun w M => (mem_erase 1 (mem_erase 2 (mem_erase 4 (mem_take 5 M))) :)) ?_
          refine ga_done (by kernel_rfl) ?_
          refine gk_pickL [0, 0, 0, 0, 0] ?_
          refine gk_sub ?hs_109 (HJ47 (_, _))
          case hs_109 => repeat first | exact sub_nil | refine sub_cons rfl ?_
       ·refine gov (qti (fun w M => lenA_own1 (n := 4) rfl M)) ?_
        refine hK86 _ _ (fun w M => (mem_erase 1 (mem_erase 2 (mem_erase 4 (mem_take 5 M))) :)) ?_
        refine ga_two 4 9 (by kernel_rfl) rfl rfl (.free rfl) (.free rfl) (fun K111 hK111 => ?_) (fun K111 hK111 => ?_)
        ·refine gov (qti (fun w M => lenA_own1 (n := 4) rfl M)) ?_
         refine hK111 _ _ (fun w M => (mem_erase 1 (mem_erase 2 (mem_erase 4 (mem_take 5 M))) :)) ?_
         refine ga_two 5 9 (by kernel_rfl) rfl rfl (.free rfl) (.free rfl) (fun K113 hK113 => ?_) (fun K113 hK113 => ?_)
         ·refine gov (qtd (fun w M => (mem_own1 (n := 4) M rfl).rd)) ?_
          refine hK113 _ _ (fun w M => (mem_erase 1 (mem_erase 2 (mem_erase 4 (mem_take 5 M))) :)) ?_
          refine gao 9 fun K115 hK115 => ?_
          refine gov (qtd (fun w M => (mem_own1 (n := 4) M rfl).rd)) ?_
          refine hK115 _ _ (fun w M => (mem_erase 1 (mem_erase 2 (mem_erase 4 (mem_take 5 M))) :)) ?_
          refine gao 10 fun K116 hK116 => ?_
          refine go_q rfl rfl (qt_call rfl Try.func97 rfl (by decide) rfl (fun w M => then_any w _ _ _ _ (mem_rdC M h0) (by first | assumption | omega) (by first | assumption | omega) (by first | assumption | omega) (by first | assumption | omega))) ?_
          refine hK116 _ _ (fun w M => (mem_erase 1 (mem_erase 2 (mem_erase 4 (mem_take 5 M))) :)) ?_
          refine gao 11 fun K118 hK118 => ?_
          refine go_clo 5 (L := [_, _, _, _, _]) (α := Option Addr) (β := Nat) rfl rfl rfl rfl Try.func152 rfl (by decide) rfl rfl rfl (fun w M => genAdd_any _ w _ _ _ _ _ _ _ _ _ _ _ (by first | exact hv.imp id (fun z => ⟨z.1, by omega⟩) | exact hw.imp id (fun z => ⟨z.1, by simp only [addB_len]; omega⟩) | (right; simp only [addB_len]; omega) | (right; omega)) (by first | (simp only [addB_len]; first | assumption | omega) | assumption | omega) (by first | omega | assumption) M) (fun _ _ => rfl) ?_
          intro va117 vc117; simp only [List.take_succ_cons, List.take_zero, List.cons_append, List.nil_append]
          refine hK118 _ _ (fun w M => (mem_erase 1 (mem_erase 2 (mem_erase 4 (mem_take 5 M))) :)) ?_
          refine ga_done (by kernel_rfl) ?_
          refine gk_pickL [0, 0, 0, 0, 0] ?_
          refine gk_sub ?hs_119 (HJ47 (_, _))
          case hs_119 => repeat first | exact sub_nil | refine sub_cons rfl ?_
         ·refine gov (qtd (fun w M => (mem_own1 (n := 4) M rfl).rd)) ?_
          refine hK113 _ _ (fun w M => (mem_erase 1 (mem_erase 2 (mem_erase 4 (mem_take 5 M))) :)) ?_
          refine gao 5 fun K121 hK121 => ?_
          refine gov (qtd (fun w M => (mem_own1 (n := 4) M rfl).rd)) ?_
          refine hK121 _ _ (fun w M => (mem_erase 1 (mem_erase 2 (mem_erase 4 (mem_take 5 M))) :)) ?_
          refine gao 10 fun K122 hK122 => ?_
          refine go_q rfl rfl (qt_call rfl Try.func97 rfl (by decide) rfl (fun w M => then_any w _ _ _ _ (mem_rdC M h0) (by first | assumption | omega) (by first | assumption | omega) (by first | assumption | omega) (by first | assumption | omega))) ?_
          refine hK122 _ _ (fun w M => (mem_erase 1 (mem_erase 2 (mem_erase 4 (mem_take 5 M))) :)) ?_
          refine gao 11 fun K124 hK124 => ?_
          refine go_clo 5 (L := [_, _, _, _, _]) (α := Option Addr) (β := Nat) rfl rfl rfl rfl Try.func152 rfl (by decide) rfl rfl rfl (fun w M => genAdd_any _ w _ _ _ _ _ _ _ _ _ _ _ (by first | exact hv.imp id (fun z => ⟨z.1, by omega⟩) | exact hw.imp id (fun z => ⟨z.1, by simp only [addB_len]; omega⟩) | (right; simp only [addB_len]; omega) | (right; omega)) (by first | (simp only [addB_len]; first | assumption | omega) | assumption | omega) (by first | omega | assumption) M) (fun _ _ => rfl) ?_
          intro va123 vc123; simp only [List.take_succ_cons, List.take_zero, List.cons_append, List.nil_append]
          refine hK124 _ _ (fun w M => (mem_erase 1 (mem_erase 2 (mem_erase 4 (mem_take 5 M))) :)) ?_
          refine ga_done (by kernel_rfl) ?_
          refine gk_pickL [0, 0, 0, 0, 0] ?_
          refine gk_sub ?hs_125 (HJ47 (_, _))
          case hs_125 => repeat first | exact sub_nil | refine sub_cons rfl ?_
        ·refine gov (qtd (fun w M => (mem_own1 (n := 4) M rfl).rd)) ?_
         refine hK111 _ _ (fun w M => (mem_erase 1 (mem_erase 2 (mem_erase 4 (mem_take 5 M))) :)) ?_
         refine gao 4 fun K127 hK127 => ?_
         refine gov (qti (fun w M => lenA_own1 (n := 4) rfl M)) ?_
         refine hK127 _ _ (fun w M => (mem_erase 1 (mem_erase 2 (mem_erase 4 (mem_take 5 M))) :)) ?_
         refine gao 5 fun K128 hK128 => ?_
         refine gov (qtd (fun w M => (mem_own1 (n := 4) M rfl).rd)) ?_
         refine hK128 _ _ (fun w M => (mem_erase 1 (mem_erase 2 (mem_erase 4 (mem_take 5 M))) :)) ?_
         refine gao 10 fun K129 hK129 => ?_
         refine go_q rfl rfl (qt_call rfl Try.func97 rfl (by decide) rfl (fun w M => then_any w _ _ _ _ (mem_rdC M h0) (by first | assumption | omega) (by first | assumption | omega) (by first | assumption | omega) (by first | assumption | omega))) ?_
         refine hK129 _ _ (fun w M => (mem_erase 1 (mem_erase 2 (mem_erase 4 (mem_take 5 M))) :)) ?_
         refine gao 11 fun K131 hK131 => ?_
         refine go_clo 5 (L := [_, _, _, _, _]) (α := Option Addr) (β := Nat) rfl rfl rfl rfl Try.func152 rfl (by decide) rfl rfl rfl (fun w M => genAdd_any _ w _ _ _ _ _ _ _ _ _ _ _ (by first | exact hv.imp id (fun z => ⟨z.1, by omega⟩) | exact hw.imp id (fun z => ⟨z.1, by simp only [addB_len]; omega⟩) | (right; simp only [addB_len]; omega) | (right; omega)) (by first | (simp only [addB_len]; first | assumption | omega) | assumption | omega) (by first | omega | assumption) M) (fun _ _ => rfl) ?_
         intro va130 vc130; simp only [List.take_succ_cons, List.take_zero, List.cons_append, List.nil_append]
         refine hK131 _ _ (fun w M => (mem_erase 1 (mem_erase 2 (mem_erase 4 (mem_take 5 M))) :)) ?_
         refine ga_done (by kernel_rfl) ?_
         refine gk_pickL [0, 0, 0, 0, 0] ?_
         refine gk_sub ?hs_132 (HJ47 (_, _))
         case hs_132 => repeat first | exact sub_nil | refine sub_cons rfl ?_
     ·refine gov (qtl Try.underlying22 (n := 1)) ?_
      refine hK49 _ _ (fun w M => (mem_erase 1 (mem_erase 2 (mem_erase 4 (mem_take 5 M))) :)) ?_
      refine ga_two 2 8 (by kernel_rfl) rfl rfl (.free rfl) (.free rfl) (fun K134 hK134 => ?_) (fun K134 hK134 => ?_)
      ·refine gov (qtl Try.underlying22 (n := 1)) ?_
       refine hK134 _ _ (fun w M => (mem_erase 1 (mem_erase 2 (mem_erase 4 (mem_take 5 M))) :)) ?_
       refine ga_two 4 8 (by kernel_rfl) rfl rfl (.free rfl) (.free rfl) (fun K136 hK136 => ?_) (fun K136 hK136 => ?_)
       ·refine gov (qti (fun w M => lenA_own1 (n := 4) rfl M)) ?_
        refine hK136 _ _ (fun w M => (mem_erase 1 (mem_erase 2 (mem_erase 4 (mem_take 5 M))) :)) ?_
        refine ga_two 5 8 (by kernel_rfl) rfl rfl (.free rfl) (.free rfl) (fun K138 hK138 => ?_) (fun K138 hK138 => ?_)
        ·refine gov (qtd (fun w M => (mem_own1 (n := 4) M rfl).rd)) ?_
         refine hK138 _ _ (fun w M => (mem_erase 1 (mem_erase 2 (mem_erase 4 (mem_take 5 M))) :)) ?_
         refine gao 8 fun K140 hK140 => ?_
         refine gov (qti (fun w M => lenA_own1 (n := 4) rfl M)) ?_
         refine hK140 _ _ (fun w M => (mem_erase 1 (mem_erase 2 (mem_erase 4 (mem_take 5 M))) :)) ?_
         refine gao 9 fun K141 hK141 => ?_
         refine gov (qtd (fun w M => (mem_own1 (n := 4) M rfl).rd)) ?_
         refine hK141 _ _ (fun w M => (mem_erase 1 (mem_erase 2 (mem_erase 4 (mem_take 5 M))) :)) ?_
         refine gao 10 fun K142 hK142 => ?_
         refine go_q rfl rfl (qt_call rfl Try.func97 rfl (by decide) rfl (fun w M => then_any w _ _ _ _ (mem_rdC M h0) (by first | assumption | omega) (by first | assumption | omega) (by first | assumption | omega) (by first | assumption | omega))) ?_
         refine hK142 _ _ (fun w M => (mem_erase 1 (mem_erase 2 (mem_erase 4 (mem_take 5 M))) :)) ?_
         refine gao 11 fun K144 hK144 => ?_
         refine go_clo 5 (L := [_, _, _, _, _]) (α := Option Addr) (β := Nat) rfl rfl rfl rfl Try.func152 rfl (by decide) rfl rfl rfl (fun w M => genAdd_any _ w _ _ _ _ _ _ _ _ _ _ _ (by first | exact hv.imp id (fun z => ⟨z.1, by omega⟩) | exact hw.imp id (fun z => ⟨z.1, by simp only [addB_len]; omega⟩) | (right; simp only [addB_len]; omega) | (right; omega)) (by first | (simp only [addB_len]; first | assumption | omega) | assumption | omega) (by first | omega | assumption) M) (fun _ _ => rfl) ?_
         intro va143 vc143; simp only [List.take_succ_cons, List.take_zero, List.cons_append, List.nil_append]
         refine hK144 _ _ (fun w M => (mem_erase 1 (mem_erase 2 (mem_erase 4 (mem_take 5 M))) :)) ?_
         refine ga_done (by kernel_rfl) ?_
         refine gk_pickL [0, 0, 0, 0, 0] ?_
         refine gk_sub ?hs_145 (HJ47 (_, _))
         case hs_145 => repeat first | exact sub_nil | refine sub_cons rfl ?_
        ·refine gov (qti (fun w M => lenA_own1 (n := 4) rfl M)) ?_
         refine hK138 _ _ (fun w M => (mem_erase 1 (mem_erase 2 (mem_erase 4 (mem_take 5 M))) :)) ?_
         refine ga_two 5 9 (by kernel_rfl) rfl rfl (.free rfl) (.free rfl) (fun K147 hK147 => ?_) (fun K147 hK147 => ?_)
         ·refine gov (qtd (fun w M => (mem_own1 (n := 4) M rfl).rd)) ?_
          refine hK147 _ _ (fun w M => (mem_erase 1 (mem_erase 2 (mem_erase 4 (mem_take 5 M))) :)) ?_
          refine gao 9 fun K149 hK149 => ?_
          refine gov (qtd (fun w M => (mem_own1 (n := 4) M rfl).rd)) ?_
          refine hK149 _ _ (fun w M => (mem_erase 1 (mem_erase 2 (mem_erase 4 (mem_take 5 M))) :)) ?_
          refine gao 10 fun K150 hK150 => ?_
          refine go_q rfl rfl (qt_call rfl Try.func97 rfl (by decide) rfl (fun w M => then_any w _ _ _ _ (mem_rdC M h0) (by first | assumption | omega) (by first | assumption | omega) (by first | assumption | omega) (by first | assumption | omega))) ?_
          refine hK150 _ _ (fun w M => (mem_erase 1 (mem_erase 2 (mem_erase 4 (mem_take 5 M))) :)) ?_
          refine gao 11 fun K152 hK152 => ?_
          refine go_clo 5 (L := [_, _, _, _, _]) (α := Option Addr) (β := Nat) rfl rfl rfl rfl Try.func152 rfl (by decide) rfl rfl rfl (fun w M => genAdd_any _ w _ _ _ _ _ _ _ _ _ _ _ (by first | exact hv.imp id (fun z => ⟨z.1, by omega⟩) | exact hw.imp id (fun z => ⟨z.1, by simp only [addB_len]; omega⟩) | (right; simp only [addB_len]; omega) | (right; omega)) (by first | (simp only [addB_len]; first | assumption | omega) | assumption | omega) (by first | omega | assumption) M) (fun _ _ => rfl) ?_
          intro va151 vc151; simp only [List.take_succ_cons, List.take_zero, List.cons_append, List.nil_append]
          refine hK152 _ _ (fun w M => (mem_erase 1 (mem_erase 2 (mem_erase 4 (mem_take 5 M))) :)) ?_
          refine ga_done (by kernel_rfl) ?_
          refine gk_pickL [0, 0, 0, 0, 0] ?_
          refine gk_sub ?hs_153 (HJ47 (_, _))
          case hs_153 => repeat first | exact sub_nil | refine sub_cons rfl ?_
         ·refine gov (qtd (fun w M => (mem_own1 (n := 4) M rfl).rd)) ?_
          refine hK147 _ _ (fun w M => (mem_erase 1 (mem_erase 2 (mem_erase 4 (mem_take 5 M))) :)) ?_
          refine gao 5 fun K155 hK155 => ?_
          refine gov (qtd (fun w M => (mem_own1 (n := 4) M rfl).rd)) ?_
          refine hK155 _ _ (fun w M => (mem_erase 1 (mem_erase 2 (mem_erase 4 (mem_take 5 M))) :)) ?_
          refine gao 10 fun K156 hK156 => ?_
          refine go_q rfl rfl (qt_call rfl Try.func97 rfl (by decide) rfl (fun w M => then_any w _ _ _ _ (mem_rdC M h0) (by first | assumption | omega) (by first | assumption | omega) (by first | assumption | omega) (by first | assumption | omega))) ?_
          refine hK156 _ _ (fun w M => (mem_erase 1 (mem_erase 2 (mem_erase 4 (mem_take 5 M))) :)) ?_
          refine gao 11 fun K158 hK158 => ?_
          refine go_clo 5 (L := [_, _, _, _, _]) (α := Option Addr) (β := Nat) rfl rfl rfl rfl Try.func152 rfl (by decide) rfl rfl rfl (fun w M => genAdd_any _ w _ _ _ _ _ _ _ _ _ _ _ (by first | exact hv.imp id (fun z => ⟨z.1, by omega⟩) | exact hw.imp id (fun z => ⟨z.1, by simp only [addB_len]; omega⟩) | (right; simp only [addB_len]; omega) | (right; omega)) (by first | (simp only [addB_len]; first | assumption | omega) | assumption | omega) (by first | omega | assumption) M) (fun _ _ => rfl) ?_
          intro va157 vc157; simp only [List.take_succ_cons, List.take_zero, List.cons_append, List.nil_append]
          refine hK158 _ _ (fun w M => (mem_erase 1 (mem_erase 2 (mem_erase 4 (mem_take 5 M))) :)) ?_
          refine ga_done (by kernel_rfl) ?_
          refine gk_pickL [0, 0, 0, 0, 0] ?_
          refine gk_sub ?hs_159 (HJ47 (_, _))
          case hs_159 => repeat first | exact sub_nil | refine sub_cons rfl ?_
       ·refine gov (qti (fun w M => lenA_own1 (n := 4) rfl M)) ?_
        refine hK136 _ _ (fun w M => (mem_erase 1 (mem_erase 2 (mem_erase 4 (mem_take 5 M))) :)) ?_
        refine ga_two 4 9 (by kernel_rfl) rfl rfl (.free rfl) (.free rfl) (fun K161 hK161 => ?_) (fun K161 hK161 => ?_)
        ·refine gov (qti (fun w M => lenA_own1 (n := 4) rfl M)) ?_
         refine hK161 _ _ (fun w M => (mem_erase 1 (mem_erase 2 (mem_erase 4 (mem_take 5 M))) :)) ?_
         refine ga_two 5 9 (by kernel_rfl) rfl rfl (.free rfl) (.free rfl) (fun K163 hK163 => ?_) (fun K163 hK163 => ?_)
         ·refine gov (qtd (fun w M => (mem_own1 (n := 4) M rfl).rd)) ?_
          refine hK163 _ _ (fun w M => (mem_erase 1 (mem_erase 2 (mem_erase 4 (mem_take 5 M))) :)) ?_
          refine gao 9 fun K165 hK165 => ?_
          refine gov (qtd (fun w M => (mem_own1 (n := 4) M rfl).rd)) ?_
          refine hK165 _ _ (fun w M => (mem_erase 1 (mem_erase 2 (mem_erase 4 (mem_take 5 M))) :)) ?_
          refine gao 10 fun K166 hK166 => ?_
          refine go_q rfl rfl (qt_call rfl Try.func97 rfl (by decide) rfl (fun w M => then_any w _ _ _ _ (mem_rdC M h0) (by first | assumption | omega) (by first | assumption | omega) (by first | assumption | omega) (by first | assumption | omega))) ?_
          refine hK166 _ _ (fun w M => (mem_erase 1 (mem_erase 2 (mem_erase 4 (mem_take 5 M))) :)) ?_
          refine gao 11 fun K168 hK168 => ?_
          refine go_clo 5 (L := [_, _, _, _, _]) (α := Option Addr) (β := Nat) rfl rfl rfl rfl Try.func152 rfl (by decide) rfl rfl rfl (fun w M => genAdd_any _ w _ _ _ _ _ _ _ _ _ _ _ (by first | exact hv.imp id (fun z => ⟨z.1, by omega⟩) | exact hw.imp id (fun z => ⟨z.1, by simp only [addB_len]; omega⟩) | (right; simp only [addB_len]; omega) | (right; omega)) (by first | (simp only [addB_len]; first | assumption | omega) | assumption | omega) (by first | omega | assumption) M) (fun _ _ => rfl) ?_
          intro va167 vc167; simp only [List.take_succ_cons, List.take_zero, List.cons_append, List.nil_append]
          refine hK168 _ _ (fun w M => (mem_erase 1 (mem_erase 2 (mem_erase 4 (mem_take 5 M))) :)) ?_
          refine ga_done (by kernel_rfl) ?_
          refine gk_pickL [0, 0, 0, 0, 0] ?_
          refine gk_sub ?hs_169 (HJ47 (_, _))
          case hs_169 => repeat first | exact sub_nil | refine sub_cons rfl ?_
         ·refine gov (qtd (fun w M => (mem_own1 (n := 4) M rfl).rd)) ?_
          refine hK163 _ _ (fun w M => (mem_erase 1 (mem_erase 2 (mem_erase 4 (mem_take 5 M))) :)) ?_
          refine gao 5 fun K171 hK171 => ?_
          refine gov (qtd (fun w M => (mem_own1 (n := 4) M rfl).rd)) ?_
          refine hK171 _ _ (fun w M => (mem_erase 1 (mem_erase 2 (mem_erase 4 (mem_take 5 M))) :)) ?_
          refine gao 10 fun K172 hK172 => ?_
          refine go_q rfl rfl (qt_call rfl Try.func97 rfl (by decide) rfl (fun w M => then_any w _ _ _ _ (mem_rdC M h0) (by first | assumption | omega) (by first | assumption | omega) (by first | assumption | omega) (by first | assumption | omega))) ?_
          refine hK172 _ _ (fun w M => (mem_erase 1 (mem_erase 2 (mem_erase 4 (mem_take 5 M))) :)) ?_
          refine gao 11 fun K174 hK174 => ?_
          refine go_clo 5 (L := [_, _, _, _, _]) (α := Option Addr) (β := Nat) rfl rfl rfl rfl Try.func152 rfl (by decide) rfl rfl rfl (fun w M => genAdd_any _ w _ _ _ _ _ _ _ _ _ _ _ (by first | exact hv.imp id (fun z => ⟨z.1, by omega⟩) | exact hw.imp id (fun z => ⟨z.1, by simp only [addB_len]; omega⟩) | (right; simp only [addB_len]; omega) | (right; omega)) (by first | (simp only [addB_len]; first | assumption | omega) | assumption | omega) (by first | omega | assumption) M) (fun _ _ => rfl) ?_
          intro va173 vc173; simp only [List.take_succ_cons, List.take_zero, List.cons_append, List.nil_append]
          refine hK174 _ _ (fun w M => (mem_erase 1 (mem_erase 2 (mem_erase 4 (mem_take 5 M))) :)) ?_
          refine ga_done (by kernel_rfl) ?_
          refine gk_pickL [0, 0, 0, 0, 0] ?_
          refine gk_sub ?hs_175 (HJ47 (_, _))
          case hs_175 => repeat first | exact sub_nil | refine sub_cons rfl ?_
        ·refine gov (qtd (fun w M => (mem_own1 (n := 4) M rfl).rd)) ?_
         refine hK161 _ _ (fun w M => (mem_erase 1 (mem_erase 2 (mem_erase 4 (mem_take 5 M))) :)) ?_
         refine gao 4 fun K177 hK177 => ?_
         refine gov (qti (fun w M => lenA_own1 (n := 4) rfl M)) ?_
         refine hK177 _ _ (fun w M => (mem_erase 1 (mem_erase 2 (mem_erase 4 (mem_take 5 M))) :)) ?_
         refine gao 5 fun K178 hK178 => ?_
         refine gov (qtd (fun w M => (mem_own1 (n := 4) M rfl).rd)) ?_
         refine hK178 _ _ (fun w M => (mem_erase 1 (mem_erase 2 (mem_erase 4 (mem_take 5 M))) :)) ?_
         refine gao 10 fun K179 hK179 => ?_
         refine go_q rfl rfl (qt_call rfl Try.func97 rfl (by decide) rfl (fun w M => then_any w _ _ _ _ (mem_rdC M h0) (by first | assumption | omega) (by first | assumption | omega) (by first | assumption | omega) (by first | assumption | omega))) ?_
         refine hK179 _ _ (fun w M => (mem_erase 1 (mem_erase 2 (mem_erase 4 (mem_take 5 M))) :)) ?_
         refine gao 11 fun K181 hK181 => ?_
         refine go_clo 5 (L := [_, _, _, _, _]) (α := Option Addr) (β := Nat) rfl rfl rfl rfl Try.func152 rfl (by decide) rfl rfl rfl (fun w M => genAdd_any _ w _ _ _ _ _ _ _ _ _ _ _ (by first | exact hv.imp id (fun z => ⟨z.1, by omega⟩) | exact hw.imp id (fun z => ⟨z.1, by simp only [addB_len]; omega⟩) | (right; simp only [addB_len]; omega) | (right; omega)) (by first | (simp only [addB_len]; first | assumption | omega) | assumption | omega) (by first | omega | assumption) M) (fun _ _ => rfl) ?_
         intro va180 vc180; simp only [List.take_succ_cons, List.take_zero, List.cons_append, List.nil_append]
         refine hK181 _ _ (fun w M => (mem_erase 1 (mem_erase 2 (mem_erase 4 (mem_take 5 M))) :)) ?_
         refine ga_done (by kernel_rfl) ?_
         refine gk_pickL [0, 0, 0, 0, 0] ?_
         refine gk_sub ?hs_182 (HJ47 (_, _))
         case hs_182 => repeat first | exact sub_nil | refine sub_cons rfl ?_
      ·refine gov (qti (fun w M => lenA_own1 (n := 4) rfl M)) ?_
       refine hK134 _ _ (fun w M => (mem_erase 1 (mem_erase 2 (mem_erase 4 (mem_take 5 M))) :)) ?_
       refine ga_two 2 9 (by kernel_rfl) rfl rfl (.free rfl) (.free rfl) (fun K184 hK184 => ?_) (fun K184 hK184 => ?_)
       ·refine gov (qtl Try.underlying22 (n := 1)) ?_
        refine hK184 _ _ (fun w M => (mem_erase 1 (mem_erase 2 (mem_erase 4 (mem_take 5 M))) :)) ?_
        refine ga_two 4 9 (by kernel_rfl) rfl rfl (.free rfl) (.free rfl) (fun K186 hK186 => ?_) (fun K186 hK186 => ?_)
        ·refine gov (qti (fun w M => lenA_own1 (n := 4) rfl M)) ?_
         refine hK186 _ _ (fun w M => (mem_erase 1 (mem_erase 2 (mem_erase 4 (mem_take 5 M))) :)) ?_
         refine ga_two 5 9 (by kernel_rfl) rfl rfl (.free rfl) (.free rfl) (fun K188 hK188 => ?_) (fun K188 hK188 => ?_)
         ·refine gov (qtd (fun w M => (mem_own1 (n := 4) M rfl).rd)) ?_
          refine hK188 _ _ (fun w M => (mem_erase 1 (mem_erase 2 (mem_erase 4 (mem_take 5 M))) :)) ?_
          refine gao 9 fun K190 hK190 => ?_
          refine gov (qtd (fun w M => (mem_own1 (n := 4) M rfl).rd)) ?_
          refine hK190 _ _ (fun w M => (mem_erase 1 (mem_erase 2 (mem_erase 4 (mem_take 5 M))) :)) ?_
          refine gao 10 fun K191 hK191 => ?_
          refine go_q rfl rfl (qt_call rfl Try.func97 rfl (by decide) rfl (fun w M => then_any w _ _ _ _ (mem_rdC M h0) (by first | assumption | omega) (by first | assumption | omega) (by first | assumption | omega) (by first | assumption | omega))) ?_
          refine hK191 _ _ (fun w M => (mem_erase 1 (mem_erase 2 (mem_erase 4 (mem_take 5 M))) :)) ?_
          refine gao 11 fun K193 hK193 => ?_
          refine go_clo 5 (L := [_, _, _, _, _]) (α := Option Addr) (β := Nat) rfl rfl rfl rfl Try.func152 rfl (by decide) rfl rfl rfl (fun w M => genAdd_any _ w _ _ _ _ _ _ _ _ _ _ _ (by first | exact hv.imp id (fun z => ⟨z.1, by omega⟩) | exact hw.imp id (fun z => ⟨z.1, by simp only [addB_len]; omega⟩) | (right; simp only [addB_len]; omega) | (right; omega)) (by first | (simp only [addB_len]; first | assumption | omega) | assumption | omega) (by first | omega | assumption) M) (fun _ _ => rfl) ?_
          intro va192 vc192; simp only [List.take_succ_cons, List.take_zero, List.cons_append, List.nil_append]
          refine hK193 _ _ (fun w M => (mem_erase 1 (mem_erase 2 (mem_erase 4 (mem_take 5 M))) :)) ?_
          refine ga_done (by kernel_rfl) ?_
          refine gk_pickL [0, 0, 0, 0, 0] ?_
          refine gk_sub ?hs_194 (HJ47 (_, _))
          case hs_194 => repeat first | exact sub_nil | refine sub_cons rfl ?_
         ·refine gov (qtd (fun w M => (mem_own1 (n := 4) M rfl).rd)) ?_
          refine hK188 _ _ (fun w M => (mem_erase 1 (mem_erase 2 (mem_erase 4 (mem_take 5 M))) :)) ?_
          refine gao 5 fun K196 hK196 => ?_
          refine gov (qtd (fun w M => (mem_own1 (n := 4) M rfl).rd)) ?_
          refine hK196 _ _ (fun w M => (mem_erase 1 (mem_erase 2 (mem_erase 4 (mem_take 5 M))) :)) ?_
          refine gao 10 fun K197 hK197 => ?_
          refine go_q rfl rfl (qt_call rfl Try.func97 rfl (by decide) rfl (fun w M => then_any w _ _ _ _ (mem_rdC M h0) (by first | assumption | omega) (by first | assumption | omega) (by first | assumption | omega) (by first | assumption | omega))) ?_
          refine hK197 _ _ (fun w M => (mem_erase 1 (mem_erase 2 (mem_erase 4 (mem_take 5 M))) :)) ?_
          refine gao 11 fun K199 hK199 => ?_
          refine go_clo 5 (L := [_, _, _, _, _]) (α := Option Addr) (β := Nat) rfl rfl rfl rfl Try.func152 rfl (by decide) rfl rfl rfl (fun w M => genAdd_any _ w _ _ _ _ _ _ _ _ _ _ _ (by first | exact hv.imp id (fun z => ⟨z.1, by omega⟩) | exact hw.imp id (fun z => ⟨z.1, by simp only [addB_len]; omega⟩) | (right; simp only [addB_len]; omega) | (right; omega)) (by first | (simp only [addB_len]; first | assumption | omega) | assumption | omega) (by first | omega | assumption) M) (fun _ _ => rfl) ?_
          intro va198 vc198; simp only [List.take_succ_cons, List.take_zero, List.cons_append, List.nil_append]
          refine hK199 _ _ (fun w M => (mem_erase 1 (mem_erase 2 (mem_erase 4 (mem_take 5 M))) :)) ?_
          refine ga_done (by kernel_rfl) ?_
          refine gk_pickL [0, 0, 0, 0, 0] ?_
          refine gk_sub ?hs_200 (HJ47 (_, _))
          case hs_200 => repeat first | exact sub_nil | refine sub_cons rfl ?_
        ·refine gov (qtd (fun w M => (mem_own1 (n := 4) M rfl).rd)) ?_
         refine hK186 _ _ (fun w M => (mem_erase 1 (mem_erase 2 (mem_erase 4 (mem_take 5 M))) :)) ?_
         refine gao 4 fun K202 hK202 => ?_
         refine gov (qti (fun w M => lenA_own1 (n := 4) rfl M)) ?_
         refine hK202 _ _ (fun w M => (mem_erase 1 (mem_erase 2 (mem_erase 4 (mem_take 5 M))) :)) ?_
         refine gao 5 fun K203 hK203 => ?_
         refine gov (qtd (fun w M => (mem_own1 (n := 4) M rfl).rd)) ?_
         refine hK203 _ _ (fun w M => (mem_erase 1 (mem_erase 2 (mem_erase 4 (mem_take 5 M))) :)) ?_
         refine gao 10 fun K204 hK204 => ?_
         refine go_q rfl rfl (qt_call rfl Try.func97 rfl (by decide) rfl (fun w M => then_any w _ _ _ _ (mem_rdC M h0) (by first | assumption | omega) (by first | assumption | omega) (by first | assumption | omega) (by first | assumption | omega))) ?_
         refine hK204 _ _ (fun w M => (mem_erase 1 (mem_erase 2 (mem_erase 4 (mem_take 5 M))) :)) ?_
         refine gao 11 fun K206 hK206 => ?_
         refine go_clo 5 (L := [_, _, _, _, _]) (α := Option Addr) (β := Nat) rfl rfl rfl rfl Try.func152 rfl (by decide) rfl rfl rfl (fun w M => genAdd_any _ w _ _ _ _ _ _ _ _ _ _ _ (by first | exact hv.imp id (fun z => ⟨z.1, by omega⟩) | exact hw.imp id (fun z => ⟨z.1, by simp only [addB_len]; omega⟩) | (right; simp only [addB_len]; omega) | (right; omega)) (by first | (simp only [addB_len]; first | assumption | omega) | assumption | omega) (by first | omega | assumption) M) (fun _ _ => rfl) ?_
         intro va205 vc205; simp only [List.take_succ_cons, List.take_zero, List.cons_append, List.nil_append]
         refine hK206 _ _ (fun w M => (mem_erase 1 (mem_erase 2 (mem_erase 4 (mem_take 5 M))) :)) ?_
         refine ga_done (by kernel_rfl) ?_
         refine gk_pickL [0, 0, 0, 0, 0] ?_
         refine gk_sub ?hs_207 (HJ47 (_, _))
         case hs_207 => repeat first | exact sub_nil | refine sub_cons rfl ?_
       ·refine gov (qtd (fun w M => (mem_own1 (n := 4) M rfl).rd)) ?_
        refine hK184 _ _ (fun w M => (mem_erase 1 (mem_erase 2 (mem_erase 4 (mem_take 5 M))) :)) ?_
        refine gao 2 fun K209 hK209 => ?_
        refine gov (qtl Try.underlying22 (n := 1)) ?_
        refine hK209 _ _ (fun w M => (mem_erase 1 (mem_erase 2 (mem_erase 4 (mem_take 5 M))) :)) ?_
        refine gao 4 fun K210 hK210 => ?_
        refine gov (qti (fun w M => lenA_own1 (n := 4) rfl M)) ?_
        refine hK210 _ _ (fun w M => (mem_erase 1 (mem_erase 2 (mem_erase 4 (mem_take 5 M))) :)) ?_
        refine gao 5 fun K211 hK211 => ?_
        refine gov (qtd (fun w M => (mem_own1 (n := 4) M rfl).rd)) ?_
        refine hK211 _ _ (fun w M => (mem_erase 1 (mem_erase 2 (mem_erase 4 (mem_take 5 M))) :)) ?_
        refine gao 10 fun K212 hK212 => ?_
        refine go_q rfl rfl (qt_call rfl Try.func97 rfl (by decide) rfl (fun w M => then_any w _ _ _ _ (mem_rdC M h0) (by first | assumption | omega) (by first | assumption | omega) (by first | assumption | omega) (by first | assumption | omega))) ?_
        refine hK212 _ _ (fun w M => (mem_erase 1 (mem_erase 2 (mem_erase 4 (mem_take 5 M))) :)) ?_
        refine gao 11 fun K214 hK214 => ?_
        refine go_clo 5 (L := [_, _, _, _, _]) (α := Option Addr) (β := Nat) rfl rfl rfl rfl Try.func152 rfl (by decide) rfl rfl rfl (fun w M => genAdd_any _ w _ _ _ _ _ _ _ _ _ _ _ (by first | exact hv.imp id (fun z => ⟨z.1, by omega⟩) | exact hw.imp id (fun z => ⟨z.1, by simp only [addB_len]; omega⟩) | (right; simp only [addB_len]; omega) | (right; omega)) (by first | (simp only [addB_len]; first | assumption | omega) | assumption | omega) (by first | omega | assumption) M) (fun _ _ => rfl) ?_
        intro va213 vc213; simp only [List.take_succ_cons, List.take_zero, List.cons_append, List.nil_append]
        refine hK214 _ _ (fun w M => (mem_erase 1 (mem_erase 2 (mem_erase 4 (mem_take 5 M))) :)) ?_
        refine ga_done (by kernel_rfl) ?_
        refine gk_pickL [0, 0, 0, 0, 0] ?_
        refine gk_sub ?hs_215 (HJ47 (_, _))
        case hs_215 => repeat first | exact sub_nil | refine sub_cons rfl ?_
    simp only [sU, sL] at HJ46
    refine ga_start _ (fun w M => mem_erase 1 (mem_erase 2 (mem_erase 4 (M)))) ?_
    refine gav 0 rfl (qt_move rfl rfl) ?_
    refine gav 1 rfl (qts Try.underlying29 (n := 0)) ?_
    refine gav 3 rfl (qt_move rfl rfl) ?_
    refine gav 7 rfl (qt_move rfl rfl) ?_
    refine ga_two 2 6 (by kernel_rfl) rfl rfl (.free rfl) (.free rfl) (fun K216 hK216 => ?_) (fun K216 hK216 => ?_)
    ·refine gov (qtl Try.underlying22 (n := 1)) ?_
     refine hK216 _ _ (fun w M => (mem_erase 1 (mem_erase 2 (mem_erase 4 (mem_take 5 M))) :)) ?_
     refine ga_two 4 6 (by kernel_rfl) rfl rfl (.free rfl) (.free rfl) (fun K218 hK218 => ?_) (fun K218 hK218 => ?_)
     ·refine gov (qti (fun w M => lenA_own1 (n := 4) rfl M)) ?_
      refine hK218 _ _ (fun w M => (mem_erase 1 (mem_erase 2 (mem_erase 4 (mem_take 5 M))) :)) ?_
      refine ga_two 5 6 (by kernel_rfl) rfl rfl (.free rfl) (.free rfl) (fun K220 hK220 => ?_) (fun K220 hK220 => ?_)
      ·refine gov (qtd (fun w M => (mem_own1 (n := 4) M rfl).rd)) ?_
       refine hK220 _ _ (fun w M => (mem_erase 1 (mem_erase 2 (mem_erase 4 (mem_take 5 M))) :)) ?_
       refine gao 6 fun K222 hK222 => ?_
       refine gov (qtl Try.underlying22 (n := 1)) ?_
       refine hK222 _ _ (fun w M => (mem_erase 1 (mem_erase 2 (mem_erase 4 (mem_take 5 M))) :)) ?_
       refine gao 8 fun K223 hK223 => ?_
       refine gov (qti (fun w M => lenA_own1 (n := 4) rfl M)) ?_
       refine hK223 _ _ (fun w M => (mem_erase 1 (mem_erase 2 (mem_erase 4 (mem_take 5 M))) :)) ?_
       refine gao 9 fun K224 hK224 => ?_
       refine gov (qtd (fun w M => (mem_own1 (n := 4) M rfl).rd)) ?_
       refine hK224 _ _ (fun w M => (mem_erase 1 (mem_erase 2 (mem_erase 4 (mem_take 5 M))) :)) ?_
       refine gao 10 fun K225 hK225 => ?_
       refine go_q rfl rfl (qt_call rfl Try.func97 rfl (by decide) rfl (fun w M => then_any w _ _ _ _ (mem_rdC M h0) (by first | assumption | omega) (by first | assumption | omega) (by first | assumption | omega) (by first | assumption | omega))) ?_
       refine hK225 _ _ (fun w M => (mem_erase 1 (mem_erase 2 (mem_erase 4 (mem_take 5 M))) :)) ?_
       refine gao 11 fun K227 hK227 => ?_
       refine go_clo 5 (L := [_, _, _, _, _]) (α := Option Addr) (β := Nat) rfl rfl rfl rfl Try.func152 rfl (by decide) rfl rfl rfl (fun w M => genAdd_any _ w _ _ _ _ _ _ _ _ _ _ _ (by first | exact hv.imp id (fun z => ⟨z.1, by omega⟩) | exact hw.imp id (fun z => ⟨z.1, by simp only [addB_len]; omega⟩) | (right; simp only [addB_len]; omega) | (right; omega)) (by first | (simp only [addB_len]; first | assumption | omega) | assumption | omega) (by first | omega | assumption) M) (fun _ _ => rfl) ?_
       intro va226 vc226; simp only [List.take_succ_cons, List.take_zero, List.cons_append, List.nil_append]
       refine hK227 _ _ (fun w M => (mem_erase 1 (mem_erase 2 (mem_erase 4 (mem_take 5 M))) :)) ?_
       refine ga_done (by kernel_rfl) ?_
       refine gk_pickL [0, 0, 0, 0, 0] ?_
       refine gk_sub ?hs_228 (HJ46 (_, _))
       case hs_228 => repeat first | exact sub_nil | refine sub_cons rfl ?_
      ·refine gov (qtl Try.underlying22 (n := 1)) ?_
       refine hK220 _ _ (fun w M => (mem_erase 1 (mem_erase 2 (mem_erase 4 (mem_take 5 M))) :)) ?_
       refine ga_two 5 8 (by kernel_rfl) rfl rfl (.free rfl) (.free rfl) (fun K230 hK230 => ?_) (fun K230 hK230 => ?_)
       ·refine gov (qtd (fun w M => (mem_own1 (n := 4) M rfl).rd)) ?_
        refine hK230 _ _ (fun w M => (mem_erase 1 (mem_erase 2 (mem_erase 4 (mem_take 5 M))) :)) ?_
        refine gao 8 fun K232 hK232 => ?_
        refine gov (qti (fun w M => lenA_own1 (n := 4) rfl M)) ?_
        refine hK232 _ _ (fun w M => (mem_erase 1 (mem_erase 2 (mem_erase 4 (mem_take 5 M))) :)) ?_
        refine gao 9 fun K233 hK233 => ?_
        refine gov (qtd (fun w M => (mem_own1 (n := 4) M rfl).rd)) ?_
        refine hK233 _ _ (fun w M => (mem_erase 1 (mem_erase 2 (mem_erase 4 (mem_take 5 M))) :)) ?_
        refine gao 10 fun K234 hK234 => ?_
        refine go_q rfl rfl (qt_call rfl Try.func97 rfl (by decide) rfl (fun w M => then_any w _ _ _ _ (mem_rdC M h0) (by first | assumption | omega) (by first | assumption | omega) (by first | assumption | omega) (by first | assumption | omega))) ?_
        refine hK234 _ _ (fun w M => (mem_erase 1 (mem_erase 2 (mem_erase 4 (mem_take 5 M))) :)) ?_
        refine gao 11 fun K236 hK236 => ?_
        refine go_clo 5 (L := [_, _, _, _, _]) (α := Option Addr) (β := Nat) rfl rfl rfl rfl Try.func152 rfl (by decide) rfl rfl rfl (fun w M => genAdd_any _ w _ _ _ _ _ _ _ _ _ _ _ (by first | exact hv.imp id (fun z => ⟨z.1, by omega⟩) | exact hw.imp id (fun z => ⟨z.1, by simp only [addB_len]; omega⟩) | (right; simp only [addB_len]; omega) | (right; omega)) (by first | (simp only [addB_len]; first | assumption | omega) | assumption | omega) (by first | omega | assumption) M) (fun _ _ => rfl) ?_
        intro va235 vc235; simp only [List.take_succ_cons, List.take_zero, List.cons_append, List.nil_append]
        refine hK236 _ _ (fun w M => (mem_erase 1 (mem_erase 2 (mem_erase 4 (mem_take 5 M))) :)) ?_
        refine ga_done (by kernel_rfl) ?_
        refine gk_pickL [0, 0, 0, 0, 0] ?_
        refine gk_sub ?hs_237 (HJ46 (_, _))
        case hs_237 => repeat first | exact sub_nil | refine sub_cons rfl ?_
       ·refine gov (qti (fun w M => lenA_own1 (n := 4) rfl M)) ?_
        refine hK230 _ _ (fun w M => (mem_erase 1 (mem_erase 2 (mem_erase 4 (mem_take 5 M))) :)) ?_
        refine ga_two 5 9 (by kernel_rfl) rfl rfl (.free rfl) (.free rfl) (fun K239 hK239 => ?_) (fun K239 hK239 => ?_)
        ·refine gov (qtd (fun w M => (mem_own1 (n := 4) M rfl).rd)) ?_
         refine hK239 _ _ (fun w M => (mem_erase 1 (mem_erase 2 (mem_erase 4 (mem_take 5 M))) :)) ?_
         refine gao 9 fun K241 hK241 => ?_
         refine gov (qtd (fun w M => (mem_own1 (n := 4) M rfl).rd)) ?_
         refine hK241 _ _ (fun w M => (mem_erase 1 (mem_erase 2 (mem_erase 4 (mem_take 5 M))) :)) ?_
         refine gao 10 fun K242 hK242 => ?_
         refine go_q rfl rfl (qt_call rfl Try.func97 rfl (by decide) rfl (fun w M => then_any w _ _ _ _ (mem_rdC M h0) (by first | assumption | omega) (by first | assumption | omega) (by first | assumption | omega) (by first | assumption | omega))) ?_
         refine hK242 _ _ (fun w M => (mem_erase 1 (mem_erase 2 (mem_erase 4 (mem_take 5 M))) :)) ?_
         refine gao 11 fun K244 hK244 => ?_
         refine go_clo 5 (L := [_, _, _, _, _]) (α := Option Addr) (β := Nat) rfl rfl rfl rfl Try.func152 rfl (by decide) rfl rfl rfl (fun w M => genAdd_any _ w _ _ _ _ _ _ _ _ _ _ _ (by first | exact hv.imp id (fun z => ⟨z.1, by omega⟩) | exact hw.imp id (fun z => ⟨z.1, by simp only [addB_len]; omega⟩) | (right; simp only [addB_len]; omega) | (right; omega)) (by first | (simp only [addB_len]; first | assumption | omega) | assumption | omega) (by first | omega | assumption) M) (fun _ _ => rfl) ?_
         intro va243 vc243; simp only [List.take_succ_cons, List.take_zero, List.cons_append, List.nil_append]
         refine hK244 _ _ (fun w M => (mem_erase 1 (mem_erase 2 (mem_erase 4 (mem_take 5 M))) :)) ?_
         refine ga_done (by kernel_rfl) ?_
         refine gk_pickL [0, 0, 0, 0, 0] ?_
         refine gk_sub ?hs_245 (HJ46 (_, _))
         case hs_245 => repeat first | exact sub_nil | refine sub_cons rfl ?_
        ·refine gov (qtd (fun w M => (mem_own1 (n := 4) M rfl).rd)) ?_
         refine hK239 _ _ (fun w M => (mem_erase 1 (mem_erase 2 (mem_erase 4 (mem_take 5 M))) :)) ?_
         refine gao 5 fun K247 hK247 => ?_
         refine gov (qtd (fun w M => (mem_own1 (n := 4) M rfl).rd)) ?_
         refine hK247 _ _ (fun w M => (mem_erase 1 (mem_erase 2 (mem_erase 4 (mem_take 5 M))) :)) ?_
         refine gao 10 fun K248 hK248 => ?_
         refine go_q rfl rfl (qt_call rfl Try.func97 rfl (by decide) rfl (fun w M => then_any w _ _ _ _ (mem_rdC M h0) (by first | assumption | omega) (by first | assumption | omega) (by first | assumption | omega) (by first | assumption | omega))) ?_
         refine hK248 _ _ (fun w M => (mem_erase 1 (mem_erase 2 (mem_erase 4 (mem_take 5 M))) :)) ?_
         refine gao 11 fun K250 hK250 => ?_
         refine go_clo 5 (L := [_, _, _, _, _]) (α := Option Addr) (β := Nat) rfl rfl rfl rfl Try.func152 rfl (by decide) rfl rfl rfl (fun w M => genAdd_any _ w _ _ _ _ _ _ _ _ _ _ _ (by first | exact hv.imp id (fun z => ⟨z.1, by omega⟩) | exact hw.imp id (fun z => ⟨z.1, by simp only [addB_len]; omega⟩) | (right; simp only [addB_len]; omega) | (right; omega)) (by first | (simp only [addB_len]; first | assumption | omega) | assumption | omega) (by first | omega | assumption) M) (fun _ _ => rfl) ?_
         intro va249 vc249; simp only [List.take_succ_cons, List.take_zero, List.cons_append, List.nil_append]
         refine hK250 _ _ (fun w M => (mem_erase 1 (mem_erase 2 (mem_erase 4 (mem_take 5 M))) :)) ?_
         refine ga_done (by kernel_rfl) ?_
         refine gk_pickL [0, 0, 0, 0, 0] ?_
         refine gk_sub ?hs_251 (HJ46 (_, _))
         case hs_251 => repeat first | exact sub_nil | refine sub_cons rfl ?_
     ·refine gov (qtl Try.underlying22 (n := 1)) ?_
      refine hK218 _ _ (fun w M => (mem_erase 1 (mem_erase 2 (mem_erase 4 (mem_take 5 M))) :)) ?_
      refine ga_two 4 8 (by kernel_rfl) rfl rfl (.free rfl) (.free rfl) (fun K253 hK253 => ?_) (fun K253 hK253 => ?_)
      ·refine gov (qti (fun w M => lenA_own1 (n := 4) rfl M)) ?_
       refine hK253 _ _ (fun w M => (mem_erase 1 (mem_erase 2 (mem_erase 4 (mem_take 5 M))) :)) ?_
       refine ga_two 5 8 (by kernel_rfl) rfl rfl (.free rfl) (.free rfl) (fun K255 hK255 => ?_) (fun K255 hK255 => ?_)
       ·refine gov (qtd (fun w M => (mem_own1 (n := 4) M rfl).rd)) ?_
        refine hK255 _ _ (fun w M => (mem_erase 1 (mem_erase 2 (mem_erase 4 (mem_take 5 M))) :)) ?_
        refine gao 8 fun K257 hK257 => ?_
        refine gov (qti (fun w M => lenA_own1 (n := 4) rfl M)) ?_
        refine hK257 _ _ (fun w M => (mem_erase 1 (mem_erase 2 (mem_erase 4 (mem_take 5 M))) :)) ?_
        refine gao 9 fun K258 hK258 => ?_
        refine gov (qtd (fun w M => (mem_own1 (n := 4) M rfl).rd)) ?_
        refine hK258 _ _ (fun w M => (mem_erase 1 (mem_erase 2 (mem_erase 4 (mem_take 5 M))) :)) ?_
        refine gao 10 fun K259 hK259 => ?_
        refine go_q rfl rfl (qt_call rfl Try.func97 rfl (by decide) rfl (fun w M => then_any w _ _ _ _ (mem_rdC M h0) (by first | assumption | omega) (by first | assumption | omega) (by first | assumption | omega) (by first | assumption | omega))) ?_
        refine hK259 _ _ (fun w M => (mem_erase 1 (mem_erase 2 (mem_erase 4 (mem_take 5 M))) :)) ?_
        refine gao 11 fun K261 hK261 => ?_
        refine go_clo 5 (L := [_, _, _, _, _]) (α := Option Addr) (β := Nat) rfl rfl rfl rfl Try.func152 rfl (by decide) rfl rfl rfl (fun w M => genAdd_any _ w _ _ _ _ _ _ _ _ _ _ _ (by first | exact hv.imp id (fun z => ⟨z.1, by omega⟩) | exact hw.imp id (fun z => ⟨z.1, by simp only [addB_len]; omega⟩) | (right; simp only [addB_len]; omega) | (right; omega)) (by first | (simp only [addB_len]; first | assumption | omega) | assumption | omega) (by first | omega | assumption) M) (fun _ _ => rfl) ?_
        intro va260 vc260; simp only [List.take_succ_cons, List.take_zero, List.cons_append, List.nil_append]
        refine hK261 _ _ (fun w M => (mem_erase 1 (mem_erase 2 (mem_erase 4 (mem_take 5 M))) :)) ?_
        refine ga_done (by kernel_rfl) ?_
        refine gk_pickL [0, 0, 0, 0, 0] ?_
        refine gk_sub ?hs_262 (HJ46 (_, _))
        case hs_262 => repeat first | exact sub_nil | refine sub_cons rfl ?_
       ·refine gov (qti (fun w M => lenA_own1 (n := 4) rfl M)) ?_
        refine hK255 _ _ (fun w M => (mem_erase 1 (mem_erase 2 (mem_erase 4 (mem_take 5 M))) :)) ?_
        refine ga_two 5 9 (by kernel_rfl) rfl rfl (.free rfl) (.free rfl) (fun K264 hK264 => ?_) (fun K264 hK264 => ?_)
        ·refine gov (qtd (fun w M => (mem_own1 (n := 4) M rfl).rd)) ?_
         refine hK264 _ _ (fun w M => (mem_erase 1 (mem_erase 2 (mem_erase 4 (mem_take 5 M))) :)) ?_
         refine gao 9 fun K266 hK266 => ?_
         refine gov (qtd (fun w M => (mem_own1 (n := 4) M rfl).rd)) ?_
         refine hK266 _ _ (fun w M => (mem_erase 1 (mem_erase 2 (mem_erase 4 (mem_take 5 M))) :)) ?_
         refine gao 10 fun K267 hK267 => ?_
         refine go_q rfl rfl (qt_call rfl Try.func97 rfl (by decide) rfl (fun w M => then_any w _ _ _ _ (mem_rdC M h0) (by first | assumption | omega) (by first | assumption | omega) (by first | assumption | omega) (by first | assumption | omega))) ?_
         refine hK267 _ _ (fun w M => (mem_erase 1 (mem_erase 2 (mem_erase 4 (mem_take 5 M))) :)) ?_
         refine gao 11 fun K269 hK269 => ?_
         refine go_clo 5 (L := [_, _, _, _, _]) (α := Option Addr) (β := Nat) rfl rfl rfl rfl Try.func152 rfl (by decide) rfl rfl rfl (fun w M => genAdd_any _ w _ _ _ _ _ _ _ _ _ _ _ (by first | exact hv.imp id (fun z => ⟨z.1, by omega⟩) | exact hw.imp id (fun z => ⟨z.1, by simp only [addB_len]; omega⟩) | (right; simp only [addB_len]; omega) | (right; omega)) (by first | (simp only [addB_len]; first | assumption | omega) | assumption | omega) (by first | omega | assumption) M) (fun _ _ => rfl) ?_
         intro va268 vc268; simp only [List.take_succ_cons, List.take_zero, List.cons_append, List.nil_append]
         refine hK269 _ _ (fun w M => (mem_erase 1 (mem_erase 2 (mem_erase 4 (mem_take 5 M))) :)) ?_
         refine ga_done (by kernel_rfl) ?_
         refine gk_pickL [0, 0, 0, 0, 0] ?_
         refine gk_sub ?hs_270 (HJ46 (_, _))
         case hs_270 => repeat first | exact sub_nil | refine sub_cons rfl ?_
        ·refine gov (qtd (fun w M => (mem_own1 (n := 4) M rfl).rd)) ?_
         refine hK264 _ _ (fun w M => (mem_erase 1 (mem_erase 2 (mem_erase 4 (mem_take 5 M))) :)) ?_
         refine gao 5 fun K272 hK272 => ?_
         refine gov (qtd (fun w M => (mem_own1 (n := 4) M rfl).rd)) ?_
         refine hK272 _ _ (fun w M => (mem_erase 1 (mem_erase 2 (mem_erase 4 (mem_take 5 M))) :)) ?_
         refine gao 10 fun K273 hK273 => ?_
         refine go_q rfl rfl (qt_call rfl Try.func97 rfl (by decide) rfl (fun w M => then_any w _ _ _ _ (mem_rdC M h0) (by first | assumption | omega) (by first | assumption | omega) (by first | assumption | omega) (by first | assumption | omega))) ?_
         refine hK273 _ _ (fun w M => (mem_erase 1 (mem_erase 2 (mem_erase 4 (mem_take 5 M))) :)) ?_
         refine gao 11 fun K275 hK275 => ?_
         refine go_clo 5 (L := [_, _, _, _, _]) (α := Option Addr) (β := Nat) rfl rfl rfl rfl Try.func152 rfl (by decide) rfl rfl rfl (fun w M => genAdd_any _ w _ _ _ _ _ _ _ _ _ _ _ (by first | exact hv.imp id (fun z => ⟨z.1, by omega⟩) | exact hw.imp id (fun z => ⟨z.1, by simp only [addB_len]; omega⟩) | (right; simp only [addB_len]; omega) | (right; omega)) (by first | (simp only [addB_len]; first | assumption | omega) | assumption | omega) (by first | omega | assumption) M) (fun _ _ => rfl) ?_
         intro va274 vc274; simp only [List.take_succ_cons, List.take_zero, List.cons_append, List.nil_append]
         refine hK275 _ _ (fun w M => (mem_erase 1 (mem_erase 2 (mem_erase 4 (mem_take 5 M))) :)) ?_
         refine ga_done (by kernel_rfl) ?_
         refine gk_pickL [0, 0, 0, 0, 0] ?_
         refine gk_sub ?hs_276 (HJ46 (_, _))
         case hs_276 => repeat first | exact sub_nil | refine sub_cons rfl ?_
      ·refine gov (qti (fun w M => lenA_own1 (n := 4) rfl M)) ?_
       refine hK253 _ _ (fun w M => (mem_erase 1 (mem_erase 2 (mem_erase 4 (mem_take 5 M))) :)) ?_
       refine ga_two 4 9 (by kernel_rfl) rfl rfl (.free rfl) (.free rfl) (fun K278 hK278 => ?_) (fun K278 hK278 => ?_)
       ·refine gov (qti (fun w M => lenA_own1 (n := 4) rfl M)) ?_
        refine hK278 _ _ (fun w M => (mem_erase 1 (mem_erase 2 (mem_erase 4 (mem_take 5 M))) :)) ?_
        refine ga_two 5 9 (by kernel_rfl) rfl rfl (.free rfl) (.free rfl) (fun K280 hK280 => ?_) (fun K280 hK280 => ?_)
        ·refine gov (qtd (fun w M => (mem_own1 (n := 4) M rfl).rd)) ?_
         refine hK280 _ _ (fun w M => (mem_erase 1 (mem_erase 2 (mem_erase 4 (mem_take 5 M))) :)) ?_
         refine gao 9 fun K282 hK282 => ?_
         refine gov (qtd (fun w M => (mem_own1 (n := 4) M rfl).rd)) ?_
         refine hK282 _ _ (fun w M => (mem_erase 1 (mem_erase 2 (mem_erase 4 (mem_take 5 M))) :)) ?_
         refine gao 10 fun K283 hK283 => ?_
         refine go_q rfl rfl (qt_call rfl Try.func97 rfl (by decide) rfl (fun w M => then_any w _ _ _ _ (mem_rdC M h0) (by first | assumption | omega) (by first | assumption | omega) (by first | assumption | omega) (by first | assumption | omega))) ?_
         refine hK283 _ _ (fun w M => (mem_erase 1 (mem_erase 2 (mem_erase 4 (mem_take 5 M))) :)) ?_
         refine gao 11 fun K285 hK285 => ?_
         refine go_clo 5 (L := [_, _, _, _, _]) (α := Option Addr) (β := Nat) rfl rfl rfl rfl Try.func152 rfl (by decide) rfl rfl rfl (fun w M => genAdd_any _ w _ _ _ _ _ _ _ _ _ _ _ (by first | exact hv.imp id (fun z => ⟨z.1, by omega⟩) | exact hw.imp id (fun z => ⟨z.1, by simp only [addB_len]; omega⟩) | (right; simp only [addB_len]; omega) | (right; omega)) (by first | (simp only [addB_len]; first | assumption | omega) | assumption | omega) (by first | omega | assumption) M) (fun _ _ => rfl) ?_
         intro va284 vc284; simp only [List.take_succ_cons, List.take_zero, List.cons_append, List.nil_append]
         refine hK285 _ _ (fun w M => (mem_erase 1 (mem_erase 2 (mem_erase 4 (mem_take 5 M))) :)) ?_
         refine ga_done (by kernel_rfl) ?_
         refine gk_pickL [0, 0, 0, 0, 0] ?_
         refine gk_sub ?hs_286 (HJ46 (_, _))
         case hs_286 => repeat first | exact sub_nil | refine sub_cons rfl ?_
        ·refine gov (qtd (fun w M => (mem_own1 (n := 4) M rfl).rd)) ?_
         refine hK280 _ _ (fun w M => (mem_erase 1 (mem_erase 2 (mem_erase 4 (mem_take 5 M))) :)) ?_
         refine gao 5 fun K288 hK288 => ?_
         refine gov (qtd (fun w M => (mem_own1 (n := 4) M rfl).rd)) ?_
         refine hK288 _ _ (fun w M => (mem_erase 1 (mem_erase 2 (mem_erase 4 (mem_take 5 M))) :)) ?_
         refine gao 10 fun K289 hK289 => ?_
         refine go_q rfl rfl (qt_call rfl Try.func97 rfl (by decide) rfl (fun w M => then_any w _ _ _ _ (mem_rdC M h0) (by first | assumption | omega) (by first | assumption | omega) (by first | assumption | omega) (by first | assumption | omega))) ?_
         refine hK289 _ _ (fun w M => (mem_erase 1 (mem_erase 2 (mem_erase 4 (mem_take 5 M))) :)) ?_
         refine gao 11 fun K291 hK291 => ?_
         refine go_clo 5 (L := [_, _, _, _, _]) (α := Option Addr) (β := Nat) rfl rfl rfl rfl Try.func152 rfl (by decide) rfl rfl rfl (fun w M => genAdd_any _ w _ _ _ _ _ _ _ _ _ _ _ (by first | exact hv.imp id (fun z => ⟨z.1, by omega⟩) | exact hw.imp id (fun z => ⟨z.1, by simp only [addB_len]; omega⟩) | (right; simp only [addB_len]; omega) | (right; omega)) (by first | (simp only [addB_len]; first | assumption | omega) | assumption | omega) (by first | omega | assumption) M) (fun _ _ => rfl) ?_
         intro va290 vc290; simp only [List.take_succ_cons, List.take_zero, List.cons_append, List.nil_append]
         refine hK291 _ _ (fun w M => (mem_erase 1 (mem_erase 2 (mem_erase 4 (mem_take 5 M))) :)) ?_
         refine ga_done (by kernel_rfl) ?_
         refine gk_pickL [0, 0, 0, 0, 0] ?_
         refine gk_sub ?hs_292 (HJ46 (_, _))
         case hs_292 => repeat first | exact sub_nil | refine sub_cons rfl ?_
       ·refine gov (qtd (fun w M => (mem_own1 (n := 4) M rfl).rd)) ?_
        refine hK278 _ _ (fun w M => (mem_erase 1 (mem_erase 2 (mem_erase 4 (mem_take 5 M))) :)) ?_
        refine gao 4 fun K294 hK294 => ?_
        refine gov (qti (fun w M => lenA_own1 (n := 4) rfl M)) ?_
        refine hK294 _ _ (fun w M => (mem_erase 1 (mem_erase 2 (mem_erase 4 (mem_take 5 M))) :)) ?_
        refine gao 5 fun K295 hK295 => ?_
        refine gov (qtd (fun w M => (mem_own1 (n := 4) M rfl).rd)) ?_
        refine hK295 _ _ (fun w M => (mem_erase 1 (mem_erase 2 (mem_erase 4 (mem_take 5 M))) :)) ?_
        refine gao 10 fun K296 hK296 => ?_
        refine go_q rfl rfl (qt_call rfl Try.func97 rfl (by decide) rfl (fun w M => then_any w _ _ _ _ (mem_rdC M h0) (by first | assumption | omega) (by first | assumption | omega) (by first | assumption | omega) (by first | assumption | omega))) ?_
        refine hK296 _ _ (fun w M => (mem_erase 1 (mem_erase 2 (mem_erase 4 (mem_take 5 M))) :)) ?_
        refine gao 11 fun K298 hK298 => ?_
        refine go_clo 5 (L := [_, _, _, _, _]) (α := Option Addr) (β := Nat) rfl rfl rfl rfl Try.func152 rfl (by decide) rfl rfl rfl (fun w M => genAdd_any _ w _ _ _ _ _ _ _ _ _ _ _ (by first | exact hv.imp id (fun z => ⟨z.1, by omega⟩) | exact hw.imp id (fun z => ⟨z.1, by simp only [addB_len]; omega⟩) | (right; simp only [addB_len]; omega) | (right; omega)) (by first | (simp only [addB_len]; first | assumption | omega) | assumption | omega) (by first | omega | assumption) M) (fun _ _ => rfl) ?_
        intro va297 vc297; simp only [List.take_succ_cons, List.take_zero, List.cons_append, List.nil_append]
        refine hK298 _ _ (fun w M => (mem_erase 1 (mem_erase 2 (mem_erase 4 (mem_take 5 M))) :)) ?_
        refine ga_done (by kernel_rfl) ?_
        refine gk_pickL [0, 0, 0, 0, 0] ?_
        refine gk_sub ?hs_299 (HJ46 (_, _))
        case hs_299 => repeat first | exact sub_nil | refine sub_cons rfl ?_
    ·refine gov (qtl Try.underlying22 (n := 1)) ?_
     refine hK216 _ _ (fun w M => (mem_erase 1 (mem_erase 2 (mem_erase 4 (mem_take 5 M))) :)) ?_
     refine ga_two 2 8 (by kernel_rfl) rfl rfl (.free rfl) (.free rfl) (fun K301 hK301 => ?_) (fun K301 hK301 => ?_)
     ·refine gov (qtl Try.underlying22 (n := 1)) ?_
      refine hK301 _ _ (fun w M => (mem_erase 1 (mem_erase 2 (mem_erase 4 (mem_take 5 M))) :)) ?_
      refine ga_two 4 8 (by kernel_rfl) rfl rfl (.free rfl) (.free rfl) (fun K303 hK303 => ?_) (fun K303 hK303 => ?_)
      ·refine gov (qti (fun w M => lenA_own1 (n := 4) rfl M)) ?_
       refine hK303 _ _ (fun w M => (mem_erase 1 (mem_erase 2 (mem_erase 4 (mem_take 5 M))) :)) ?_
       refine ga_two 5 8 (by kernel_rfl) rfl rfl (.free rfl) (.free rfl) (fun K305 hK305 => ?_) (fun K305 hK305 => ?_)
       ·refine gov (qtd (fun w M => (mem_own1 (n := 4) M rfl).rd)) ?_
        refine hK305 _ _ (fun w M => (mem_erase 1 (mem_erase 2 (mem_erase 4 (mem_take 5 M))) :)) ?_
        refine gao 8 fun K307 hK307 => ?_
        refine gov (qti (fun w M => lenA_own1 (n := 4) rfl M)) ?_
        refine hK307 _ _ (fun w M => (mem_erase 1 (mem_erase 2 (mem_erase 4 (mem_take 5 M))) :)) ?_
        refine gao 9 fun K308 hK308 => ?_
        refine gov (qtd (fun w M => (mem_own1 (n := 4) M rfl).rd)) ?_
        refine hK308 _ _ (fun w M => (mem_erase 1 (mem_erase 2 (mem_erase 4 (mem_take 5 M))) :)) ?_
        refine gao 10 fun K309 hK309 => ?_
        refine go_q rfl rfl (qt_call rfl Try.func97 rfl (by decide) rfl (fun w M => then_any w _ _ _ _ (mem_rdC M h0) (by first | assumption | omega) (by first | assumption | omega) (by first | assumption | omega) (by first | assumption | omega))) ?_
        refine hK309 _ _ (fun w M => (mem_erase 1 (mem_erase 2 (mem_erase 4 (mem_take 5 M))) :)) ?_
        refine gao 11 fun K311 hK311 => ?_
        refine go_clo 5 (L := [_, _, _, _, _]) (α := Option Addr) (β := Nat) rfl rfl rfl rfl Try.func152 rfl (by decide) rfl rfl rfl (fun w M => genAdd_any _ w _ _ _ _ _ _ _ _ _ _ _ (by first | exact hv.imp id (fun z => ⟨z.1, by omega⟩) | exact hw.imp id (fun z => ⟨z.1, by simp only [addB_len]; omega⟩) | (right; simp only [addB_len]; omega) | (right; omega)) (by first | (simp only [addB_len]; first | assumption | omega) | assumption | omega) (by first | omega | assumption) M) (fun _ _ => rfl) ?_
        intro va310 vc310; simp only [List.take_succ_cons, List.take_zero, List.cons_append, List.nil_append]
        refine hK311 _ _ (fun w M => (mem_erase 1 (mem_erase 2 (mem_erase 4 (mem_take 5 M))) :)) ?_
        refine ga_done (by kernel_rfl) ?_
        refine gk_pickL [0, 0, 0, 0, 0] ?_
        refine gk_sub ?hs_312 (HJ46 (_, _))
        case hs_312 => repeat first | exact sub_nil | refine sub_cons rfl ?_
       ·refine gov (qti (fun w M => lenA_own1 (n := 4) rfl M)) ?_
        refine hK305 _ _ (fun w M => (mem_erase 1 (mem_erase 2 (mem_erase 4 (mem_take 5 M))) :)) ?_
        refine ga_two 5 9 (by kernel_rfl) rfl rfl (.free rfl) (.free rfl) (fun K314 hK314 => ?_) (fun K314 hK314 => ?_)
        ·refine gov (qtd (fun w M => (mem_own1 (n := 4) M rfl).rd)) ?_
         refine hK314 _ _ (fun w M => (mem_erase 1 (mem_erase 2 (mem_erase 4 (mem_take 5 M))) :)) ?_
         refine gao 9 fun K316 hK316 => ?_
         refine gov (qtd (fun w M => (mem_own1 (n := 4) M rfl).rd)) ?_
         refine hK316 _ _ (fun w M => (mem_erase 1 (mem_erase 2 (mem_erase 4 (mem_take 5 M))) :)) ?_
         refine gao 10 fun K317 hK317 => ?_
         refine go_q rfl rfl (qt_call rfl Try.func97 rfl (by decide) rfl (fun w M => then_any w _ _ _ _ (mem_rdC M h0) (by first | assumption | omega) (by first | assumption | omega) (by first | assumption | omega) (by first | assumption | omega))) ?_
         refine hK317 _ _ (fun w M => (mem_erase 1 (mem_erase 2 (mem_erase 4 (mem_take 5 M))) :)) ?_
         refine gao 11 fun K319 hK319 => ?_
         refine go_clo 5 (L := [_, _, _, _, _]) (α := Option Addr) (β := Nat) rfl rfl rfl rfl Try.func152 rfl (by decide) rfl rfl rfl (fun w M => genAdd_any _ w _ _ _ _ _ _ _ _ _ _ _ (by first | exact hv.imp id (fun z => ⟨z.1, by omega⟩) | exact hw.imp id (fun z => ⟨z.1, by simp only [addB_len]; omega⟩) | (right; simp only [addB_len]; omega) | (right; omega)) (by first | (simp only [addB_len]; first | assumption | omega) | assumption | omega) (by first | omega | assumption) M) (fun _ _ => rfl) ?_
         intro va318 vc318; simp only [List.take_succ_cons, List.take_zero, List.cons_append, List.nil_append]
         refine hK319 _ _ (fun w M => (mem_erase 1 (mem_erase 2 (mem_erase 4 (mem_take 5 M))) :)) ?_
         refine ga_done (by kernel_rfl) ?_
         refine gk_pickL [0, 0, 0, 0, 0] ?_
         refine gk_sub ?hs_320 (HJ46 (_, _))
         case hs_320 => repeat first | exact sub_nil | refine sub_cons rfl ?_
        ·refine gov (qtd (fun w M => (mem_own1 (n := 4) M rfl).rd)) ?_
         refine hK314 _ _ (fun w M => (mem_erase 1 (mem_erase 2 (mem_erase 4 (mem_take 5 M))) :)) ?_
         refine gao 5 fun K322 hK322 => ?_
         refine gov (qtd (fun w M => (mem_own1 (n := 4) M rfl).rd)) ?_
         refine hK322 _ _ (fun w M => (mem_erase 1 (mem_erase 2 (mem_erase 4 (mem_take 5 M))) :)) ?_
         refine gao 10 fun K323 hK323 => ?_
         refine go_q rfl rfl (qt_call rfl Try.func97 rfl (by decide) rfl (fun w M => then_any w _ _ _ _ (mem_rdC M h0) (by first | assumption | omega) (by first | assumption | omega) (by first | assumption | omega) (by first | assumption | omega))) ?_
         refine hK323 _ _ (fun w M => (mem_erase 1 (mem_erase 2 (mem_erase 4 (mem_take 5 M))) :)) ?_
         refine gao 11 fun K325 hK325 => ?_
         refine go_clo 5 (L := [_, _, _, _, _]) (α := Option Addr) (β := Nat) rfl rfl rfl rfl Try.func152 rfl (by decide) rfl rfl rfl (fun w M => genAdd_any _ w _ _ _ _ _ _ _ _ _ _ _ (by first | exact hv.imp id (fun z => ⟨z.1, by omega⟩) | exact hw.imp id (fun z => ⟨z.1, by simp only [addB_len]; omega⟩) | (right; simp only [addB_len]; omega) | (right; omega)) (by first | (simp only [addB_len]; first | assumption | omega) | assumption | omega) (by first | omega | assumption) M) (fun _ _ => rfl) ?_
         intro va324 vc324; simp only [List.take_succ_cons, List.take_zero, List.cons_append, List.nil_append]
         refine hK325 _ _ (fun w M => (mem_erase 1 (mem_erase 2 (mem_erase 4 (mem_take 5 M))) :)) ?_
         refine ga_done (by kernel_rfl) ?_
         refine gk_pickL [0, 0, 0, 0, 0] ?_
         refine gk_sub ?hs_326 (HJ46 (_, _))
         case hs_326 => repeat first | exact sub_nil | refine sub_cons rfl ?_
      ·refine gov (qti (fun w M => lenA_own1 (n := 4) rfl M)) ?_
       refine hK303 _ _ (fun w M => (mem_erase 1 (mem_erase 2 (mem_erase 4 (mem_take 5 M))) :)) ?_
       refine ga_two 4 9 (by kernel_rfl) rfl rfl (.free rfl) (.free rfl) (fun K328 hK328 => ?_) (fun K328 hK328 => ?_)
       ·refine gov (qti (fun w M => lenA_own1 (n := 4) rfl M)) ?_
        refine hK328 _ _ (fun w M => (mem_erase 1 (mem_erase 2 (mem_erase 4 (mem_take 5 M))) :)) ?_
        refine ga_two 5 9 (by kernel_rfl) rfl rfl (.free rfl) (.free rfl) (fun K330 hK330 => ?_) (fun K330 hK330 => ?_)
        ·refine gov (qtd (fun w M => (mem_own1 (n := 4) M rfl).rd)) ?_
         refine hK330 _ _ (fun w M => (mem_erase 1 (mem_erase 2 (mem_erase 4 (mem_take 5 M))) :)) ?_
         refine gao 9 fun K332 hK332 => ?_
         refine gov (qtd (fun w M => (mem_own1 (n := 4) M rfl).rd)) ?_
         refine hK332 _ _ (fun w M => (mem_erase 1 (mem_erase 2 (mem_erase 4 (mem_take 5 M))) :)) ?_
         refine gao 10 fun K333 hK333 => ?_
         refine go_q rfl rfl (qt_call rfl Try.func97 rfl (by decide) rfl (fun w M => then_any w _ _ _ _ (mem_rdC M h0) (by first | assumption | omega) (by first | assumption | omega) (by first | assumption | omega) (by first | assumption | omega))) ?_
         refine hK333 _ _ (fun w M => (mem_erase 1 (mem_erase 2 (mem_erase 4 (mem_take 5 M))) :)) ?_
         refine gao 11 fun K335 hK335 => ?_
         refine go_clo 5 (L := [_, _, _, _, _]) (α := Option Addr) (β := Nat) rfl rfl rfl rfl Try.func152 rfl (by decide) rfl rfl rfl (fun w M => genAdd_any _ w _ _ _ _ _ _ _ _ _ _ _ (by first | exact hv.imp id (fun z => ⟨z.1, by omega⟩) | exact hw.imp id (fun z => ⟨z.1, by simp only [addB_len]; omega⟩) | (right; simp only [addB_len]; omega) | (right; omega)) (by first | (simp only [addB_len]; first | assumption | omega) | assumption | omega) (by first | omega | assumption) M) (fun _ _ => rfl) ?_
         intro va334 vc334; simp only [List.take_succ_cons, List.take_zero, List.cons_append, List.nil_append]
         refine hK335 _ _ (fun w M => (mem_erase 1 (mem_erase 2 (mem_erase 4 (mem_take 5 M))) :)) ?_
         refine ga_done (by kernel_rfl) ?_
         refine gk_pickL [0, 0, 0, 0, 0] ?_
         refine gk_sub ?hs_336 (HJ46 (_, _))
         case hs_336 => repeat first | exact sub_nil | refine sub_cons rfl ?_
        ·refine gov (qtd (fun w M => (mem_own1 (n := 4) M rfl).rd)) ?_
         refine hK330 _ _ (fun w M => (mem_erase 1 (mem_erase 2 (mem_erase 4 (mem_take 5 M))) :)) ?_
         refine gao 5 fun K338 hK338 => ?_
         refine gov (qtd (fun w M => (mem_own1 (n := 4) M rfl).rd)) ?_
         refine hK338 _ _ (fun w M => (mem_erase 1 (mem_erase 2 (mem_erase 4 (mem_take 5 M))) :)) ?_
         refine gao 10 fun K339 hK339 => ?_
         refine go_q rfl rfl (qt_call rfl Try.func97 rfl (by decide) rfl (fun w M => then_any w _ _ _ _ (mem_rdC M h0) (by first | assumption | omega) (by first | assumption | omega) (by first | assumption | omega) (by first | assumption | omega))) ?_
         refine hK339 _ _ (fun w M => (mem_erase 1 (mem_erase 2 (mem_erase 4 (mem_take 5 M))) :)) ?_
         refine gao 11 fun K341 hK341 => ?_
         refine go_clo 5 (L := [_, _, _, _, _]) (α := Option Addr) (β := Nat) rfl rfl rfl rfl Try.func152 rfl (by decide) rfl rfl rfl (fun w M => genAdd_any _ w _ _ _ _ _ _ _ _ _ _ _ (by first | exact hv.imp id (fun z => ⟨z.1, by omega⟩) | exact hw.imp id (fun z => ⟨z.1, by simp only [addB_len]; omega⟩) | (right; simp only [addB_len]; omega) | (right; omega)) (by first | (simp only [addB_len]; first | assumption | omega) | assumption | omega) (by first | omega | assumption) M) (fun _ _ => rfl) ?_
         intro va340 vc340; simp only [List.take_succ_cons, List.take_zero, List.cons_append, List.nil_append]
         refine hK341 _ _ (fun w M => (mem_erase 1 (mem_erase 2 (mem_erase 4 (mem_take 5 M))) :)) ?_
         refine ga_done (by kernel_rfl) ?_
         refine gk_pickL [0, 0, 0, 0, 0] ?_
         refine gk_sub ?hs_342 (HJ46 (_, _))
         case hs_342 => repeat first | exact sub_nil | refine sub_cons rfl ?_
       ·refine gov (qtd (fun w M => (mem_own1 (n := 4) M rfl).rd)) ?_
        refine hK328 _ _ (fun w M => (mem_erase 1 (mem_erase 2 (mem_erase 4 (mem_take 5 M))) :)) ?_
        refine gao 4 fun K344 hK344 => ?_
        refine gov (qti (fun w M => lenA_own1 (n := 4) rfl M)) ?_
        refine hK344 _ _ (fun w M => (mem_erase 1 (mem_erase 2 (mem_erase 4 (mem_take 5 M))) :)) ?_
        refine gao 5 fun K345 hK345 => ?_
        refine gov (qtd (fun w M => (mem_own1 (n := 4) M rfl).rd)) ?_
        refine hK345 _ _ (fun w M => (mem_erase 1 (mem_erase 2 (mem_erase 4 (mem_take 5 M))) :)) ?_
        refine gao 10 fun K346 hK346 => ?_
        refine go_q rfl rfl (qt_call rfl Try.func97 rfl (by decide) rfl (fun w M => then_any w _ _ _ _ (mem_rdC M h0) (by first | assumption | omega) (by first | assumption | omega) (by first | assumption | omega) (by first | assumption | omega))) ?_
        refine hK346 _ _ (fun w M => (mem_erase 1 (mem_erase 2 (mem_erase 4 (mem_take 5 M))) :)) ?_
        refine gao 11 fun K348 hK348 => ?_
        refine go_clo 5 (L := [_, _, _, _, _]) (α := Option Addr) (β := Nat) rfl rfl rfl rfl Try.func152 rfl (by decide) rfl rfl rfl (fun w M => genAdd_any _ w _ _ _ _ _ _ _ _ _ _ _ (by first | exact hv.imp id (fun z => ⟨z.1, by omega⟩) | exact hw.imp id (fun z => ⟨z.1, by simp only [addB_len]; omega⟩) | (right; simp only [addB_len]; omega) | (right; omega)) (by first | (simp only [addB_len]; first | assumption | omega) | assumption | omega) (by first | omega | assumption) M) (fun _ _ => rfl) ?_
        intro va347 vc347; simp only [List.take_succ_cons, List.take_zero, List.cons_append, List.nil_append]
        refine hK348 _ _ (fun w M => (mem_erase 1 (mem_erase 2 (mem_erase 4 (mem_take 5 M))) :)) ?_
        refine ga_done (by kernel_rfl) ?_
        refine gk_pickL [0, 0, 0, 0, 0] ?_
        refine gk_sub ?hs_349 (HJ46 (_, _))
        case hs_349 => repeat first | exact sub_nil | refine sub_cons rfl ?_
     ·refine gov (qti (fun w M => lenA_own1 (n := 4) rfl M)) ?_
      refine hK301 _ _ (fun w M => (mem_erase 1 (mem_erase 2 (mem_erase 4 (mem_take 5 M))) :)) ?_
      refine ga_two 2 9 (by kernel_rfl) rfl rfl (.free rfl) (.free rfl) (fun K351 hK351 => ?_) (fun K351 hK351 => ?_)
      ·refine gov (qtl Try.underlying22 (n := 1)) ?_
       refine hK351 _ _ (fun w M => (mem_erase 1 (mem_erase 2 (mem_erase 4 (mem_take 5 M))) :)) ?_
       refine ga_two 4 9 (by kernel_rfl) rfl rfl (.free rfl) (.free rfl) (fun K353 hK353 => ?_) (fun K353 hK353 => ?_)
       ·refine gov (qti (fun w M => lenA_own1 (n := 4) rfl M)) ?_
        refine hK353 _ _ (fun w M => (mem_erase 1 (mem_erase 2 (mem_erase 4 (mem_take 5 M))) :)) ?_
        refine ga_two 5 9 (by kernel_rfl) rfl rfl (.free rfl) (.free rfl) (fun K355 hK355 => ?_) (fun K355 hK355 => ?_)
        ·refine gov (qtd (fun w M => (mem_own1 (n := 4) M rfl).rd)) ?_
         refine hK355 _ _ (fun w M => (mem_erase 1 (mem_erase 2 (mem_erase 4 (mem_take 5 M))) :)) ?_
         refine gao 9 fun K357 hK357 => ?_
         refine gov (qtd (fun w M => (mem_own1 (n := 4) M rfl).rd)) ?_
         refine hK357 _ _ (fun w M => (mem_erase 1 (mem_erase 2 (mem_erase 4 (mem_take 5 M))) :)) ?_
         refine gao 10 fun K358 hK358 => ?_
         refine go_q rfl rfl (qt_call rfl Try.func97 rfl (by decide) rfl (fun w M => then_any w _ _ _ _ (mem_rdC M h0) (by first | assumption | omega) (by first | assumption | omega) (by first | assumption | omega) (by first | assumption | omega))) ?_
         refine hK358 _ _ (fun w M => (mem_erase 1 (mem_erase 2 (mem_erase 4 (mem_take 5 M))) :)) ?_
         refine gao 11 fun K360 hK360 => ?_
         refine go_clo 5 (L := [_, _, _, _, _]) (α := Option Addr) (β := Nat) rfl rfl rfl rfl Try.func152 rfl (by decide) rfl rfl rfl (fun w M => genAdd_any _ w _ _ _ _ _ _ _ _ _ _ _ (by first | exact hv.imp id (fun z => ⟨z.1, by omega⟩) | exact hw.imp id (fun z => ⟨z.1, by simp only [addB_len]; omega⟩) | (right; simp only [addB_len]; omega) | (right; omega)) (by first | (simp only [addB_len]; first | assumption | omega) | assumption | omega) (by first | omega | assumption) M) (fun _ _ => rfl) ?_
         intro va359 vc359; simp only [List.take_succ_cons, List.take_zero, List.cons_append, List.nil_append]
         refine hK360 _ _ (fun w M => (mem_erase 1 (mem_erase 2 (mem_erase 4 (mem_take 5 M))) :)) ?_
         refine ga_done (by kernel_rfl) ?_
         refine gk_pickL [0, 0, 0, 0, 0] ?_
         refine gk_sub ?hs_361 (HJ46 (_, _))
         case hs_361 => repeat first | exact sub_nil | refine sub_cons rfl ?_
        ·refine gov (qtd (fun w M => (mem_own1 (n := 4) M rfl).rd)) ?_
         refine hK355 _ _ (fun w M => (mem_erase 1 (mem_erase 2 (mem_erase 4 (mem_take 5 M))) :)) ?_
         refine gao 5 fun K363 hK363 => ?_
         refine gov (qtd (fun w M => (mem_own1 (n := 4) M rfl).rd)) ?_
         refine hK363 _ _ (fun w M => (mem_erase 1 (mem_erase 2 (mem_erase 4 (mem_take 5 M))) :)) ?_
         refine gao 10 fun K364 hK364 => ?_
         refine go_q rfl rfl (qt_call rfl Try.func97 rfl (by decide) rfl (fun w M => then_any w _ _ _ _ (mem_rdC M h0) (by first | assumption | omega) (by first | assumption | omega) (by first | assumption | omega) (by first | assumption | omega))) ?_
         refine hK364 _ _ (fun w M => (mem_erase 1 (mem_erase 2 (mem_erase 4 (mem_take 5 M))) :)) ?_
         refine gao 11 fun K366 hK366 => ?_
         refine go_clo 5 (L := [_, _, _, _, _]) (α := Option Addr) (β := Nat) rfl rfl rfl rfl Try.func152 rfl (by decide) rfl rfl rfl (fun w M => genAdd_any _ w _ _ _ _ _ _ _ _ _ _ _ (by first | exact hv.imp id (fun z => ⟨z.1, by omega⟩) | exact hw.imp id (fun z => ⟨z.1, by simp only [addB_len]; omega⟩) | (right; simp only [addB_len]; omega) | (right; omega)) (by first | (simp only [addB_len]; first | assumption | omega) | assumption | omega) (by first | omega | assumption) M) (fun _ _ => rfl) ?_
         intro va365 vc365; simp only [List.take_succ_cons, List.take_zero, List.cons_append, List.nil_append]
         refine hK366 _ _ (fun w M => (mem_erase 1 (mem_erase 2 (mem_erase 4 (mem_take 5 M))) :)) ?_
         refine ga_done (by kernel_rfl) ?_
         refine gk_pickL [0, 0, 0, 0, 0] ?_
         refine gk_sub ?hs_367 (HJ46 (_, _))
         case hs_367 => repeat first | exact sub_nil | refine sub_cons rfl ?_
       ·refine gov (qtd (fun w M => (mem_own1 (n := 4) M rfl).rd)) ?_
        refine hK353 _ _ (fun w M => (mem_erase 1 (mem_erase 2 (mem_erase 4 (mem_take 5 M))) :)) ?_
        refine gao 4 fun K369 hK369 => ?_
        refine gov (qti (fun w M => lenA_own1 (n := 4) rfl M)) ?_
        refine hK369 _ _ (fun w M => (mem_erase 1 (mem_erase 2 (mem_erase 4 (mem_take 5 M))) :)) ?_
        refine gao 5 fun K370 hK370 => ?_
        refine gov (qtd (fun w M => (mem_own1 (n := 4) M rfl).rd)) ?_
        refine hK370 _ _ (fun w M => (mem_erase 1 (mem_erase 2 (mem_erase 4 (mem_take 5 M))) :)) ?_
        refine gao 10 fun K371 hK371 => ?_
        refine go_q rfl rfl (qt_call rfl Try.func97 rfl (by decide) rfl (fun w M => then_any w _ _ _ _ (mem_rdC M h0) (by first | assumption | omega) (by first | assumption | omega) (by first | assumption | omega) (by first | assumption | omega))) ?_
        refine hK371 _ _ (fun w M => (mem_erase 1 (mem_erase 2 (mem_erase 4 (mem_take 5 M))) :)) ?_
        refine gao 11 fun K373 hK373 => ?_
        refine go_clo 5 (L := [_, _, _, _, _]) (α := Option Addr) (β := Nat) rfl rfl rfl rfl Try.func152 rfl (by decide) rfl rfl rfl (fun w M => genAdd_any _ w _ _ _ _ _ _ _ _ _ _ _ (by first | exact hv.imp id (fun z => ⟨z.1, by omega⟩) | exact hw.imp id (fun z => ⟨z.1, by simp only [addB_len]; omega⟩) | (right; simp only [addB_len]; omega) | (right; omega)) (by first | (simp only [addB_len]; first | assumption | omega) | assumption | omega) (by first | omega | assumption) M) (fun _ _ => rfl) ?_
        intro va372 vc372; simp only [List.take_succ_cons, List.take_zero, List.cons_append, List.nil_append]
        refine hK373 _ _ (fun w M => (mem_erase 1 (mem_erase 2 (mem_erase 4 (mem_take 5 M))) :)) ?_
        refine ga_done (by kernel_rfl) ?_
        refine gk_pickL [0, 0, 0, 0, 0] ?_
        refine gk_sub ?hs_374 (HJ46 (_, _))
        case hs_374 => repeat first | exact sub_nil | refine sub_cons rfl ?_
      ·refine gov (qtd (fun w M => (mem_own1 (n := 4) M rfl).rd)) ?_
       refine hK351 _ _ (fun w M => (mem_erase 1 (mem_erase 2 (mem_erase 4 (mem_take 5 M))) :)) ?_
       refine gao 2 fun K376 hK376 => ?_
       refine gov (qtl Try.underlying22 (n := 1)) ?_
       refine hK376 _ _ (fun w M => (mem_erase 1 (mem_erase 2 (mem_erase 4 (mem_take 5 M))) :)) ?_
       refine gao 4 fun K377 hK377 => ?_
       refine gov (qti (fun w M => lenA_own1 (n := 4) rfl M)) ?_
       refine hK377 _ _ (fun w M => (mem_erase 1 (mem_erase 2 (mem_erase 4 (mem_take 5 M))) :)) ?_
       refine gao 5 fun K378 hK378 => ?_
       refine gov (qtd (fun w M => (mem_own1 (n := 4) M rfl).rd)) ?_
       refine hK378 _ _ (fun w M => (mem_erase 1 (mem_erase 2 (mem_erase 4 (mem_take 5 M))) :)) ?_
       refine gao 10 fun K379 hK379 => ?_
       refine go_q rfl rfl (qt_call rfl Try.func97 rfl (by decide) rfl (fun w M => then_any w _ _ _ _ (mem_rdC M h0) (by first | assumption | omega) (by first | assumption | omega) (by first | assumption | omega) (by first | assumption | omega))) ?_
       refine hK379 _ _ (fun w M => (mem_erase 1 (mem_erase 2 (mem_erase 4 (mem_take 5 M))) :)) ?_
       refine gao 11 fun K381 hK381 => ?_
       refine go_clo 5 (L := [_, _, _, _, _]) (α := Option Addr) (β := Nat) rfl rfl rfl rfl Try.func152 rfl (by decide) rfl rfl rfl (fun w M => genAdd_any _ w _ _ _ _ _ _ _ _ _ _ _ (by first | exact hv.imp id (fun z => ⟨z.1, by omega⟩) | exact hw.imp id (fun z => ⟨z.1, by simp only [addB_len]; omega⟩) | (right; simp only [addB_len]; omega) | (right; omega)) (by first | (simp only [addB_len]; first | assumption | omega) | assumption | omega) (by first | omega | assumption) M) (fun _ _ => rfl) ?_
       intro va380 vc380; simp only [List.take_succ_cons, List.take_zero, List.cons_append, List.nil_append]
       refine hK381 _ _ (fun w M => (mem_erase 1 (mem_erase 2 (mem_erase 4 (mem_take 5 M))) :)) ?_
       refine ga_done (by kernel_rfl) ?_
       refine gk_pickL [0, 0, 0, 0, 0] ?_
       refine gk_sub ?hs_382 (HJ46 (_, _))
       case hs_382 => repeat first | exact sub_nil | refine sub_cons rfl ?_
   ·try simp only [sA] at hc2
    refine gc_exit ?_
    refine gk_then_exit ?_
    refine gk_then_exit ?_
    refine gk_block_hit ?_
    refine gk_block ?_
    refine gk_then (hK39 _ _ ?_)
    refine gc_region ?_
    refine gm ?_
    refine gv (qt_add rfl rfl rfl (by omega)) ?_
    refine gas ?_
    refine g_nil ?_
    refine gk_then (gk_take 5 ?_)
    refine gk_sub ?hs_383 (hKL36 (i + 1, bs2, fs2, b2, q2) ?hi_383 ?hm_383)
    case hs_383 => repeat first | exact sub_nil | refine sub_cons rfl ?_
    case hi_383 => have e : j = i + 1 := (by omega); subst e; exact ⟨(by show i + 1 ≤ fs2.length; omega), hgi2, hsd2, doneF_row hdn2⟩
    case hm_383 => omega
  ·try simp only [sA] at hc1
   refine gc_exit ?_
   refine gk_then_exit ?_
   refine gk_then_exit ?_
   refine gk_block_hit ?_
   refine gk_then (hK34 _ _ ?_)
   refine gc_sr fun K384 hK384 => ?_
   refine gv (qtl Try.underlying22 (n := 1)) ?_
   refine gop fun K386 hK386 => ?_
   refine go_sort (n := 4) rfl rfl rfl Try.func154 rfl (by decide) rfl rfl rfl ?_
   refine hK386 _ _ ?_
   refine gnt (hK384 _ _ ?_)
   refine gc_sr fun K387 hK387 => ?_
   refine gv (qtl Try.underlying22 (n := 1)) ?_
   refine gas ?_
   refine gnt (hK387 _ _ ?_)
   refine gc_ret ?_
   refine ret_1 rfl rfl  (fun w M => ?_)
   obtain rfl : i = fs1.length := by omega
   rw [← gi_sorted hS hx hgi1 hsd1 hdn1]
   exact ⟨_, rfl, mem_own1 (n := 4) M rfl, M.1⟩
end
end Go.Proofs.Ytpfcfhjpgngneab
