
/- Which blocks a value lies in; what a call writes that writes lists over. -/
import Derived.Test.YtakifeiemcldlaaRows2
namespace Go.Proofs.Ytakifeiemcldlaa
open Go.RowKit

/-- Outside the blocks lo, .., hi - 1 the world is as it was. -/
structure Fr (lo hi : Nat) (w w' : World) : Prop where
  os : w'.os = w.os
  tape : w'.tape = w.tape
  output : w'.output = w.output
  size : w.heap.size ≤ w'.heap.size
  block : ∀ k, k < w.heap.size → (k < lo ∨ hi ≤ k) → w'.heap[k]? = w.heap[k]?

theorem Fr.refl (lo hi : Nat) (w : World) : Fr lo hi w w := ⟨rfl, rfl, rfl, Nat.le_refl _, fun _ _ _ => rfl⟩
theorem Fr.trans {lo hi : Nat} {a b c : World} (h : Fr lo hi a b) (k : Fr lo hi b c) : Fr lo hi a c :=
  ⟨k.os.trans h.os, k.tape.trans h.tape, k.output.trans h.output, Nat.le_trans h.size k.size, fun i hi' hr => (k.block i (Nat.lt_of_lt_of_le hi' h.size) hr).trans (h.block i hi' hr)⟩

theorem fr_grown {lo hi : Nat} {w w' : World} {v : Value} (hg : w.grownBy w' v.ownBlock) (hv : ∀ q, v.ownBlock = some q → lo ≤ q ∧ q < hi) : Fr lo hi w w' :=
  ⟨hg.os, hg.tape, hg.output, hg.size, fun k hk hr => hg.block k hk fun e => by have := hv k e.symm; omega⟩

theorem below_fr {B : Nat} {W w w' : World} {lo hi : Nat} (hb : Below B W w) (hf : Fr lo hi w w') (hB : B ≤ W.heap.size) (hlo : B ≤ lo) : Below B W w' :=
  hb.trans ⟨hf.os, hf.tape, hf.output, hf.size, fun k hk => hf.block k (by have := hb.size; omega) (.inl (by omega))⟩

def Slh (w : World) (lo hi : Nat) (v : Value) (xs : List Int) : Prop := Sl w lo v xs ∧ ∀ q, v.ownBlock = some q → q < hi

def Sl2h (w : World) (lo hi : Nat) (v : Value) (rows : List (List Int)) : Prop :=
  ∃ us : List Value, us.length = rows.length ∧ rows.length ≤ 5000000000000 ∧ w.ownsRow lo 22 1 v rows.length us ∧
    (∀ i, i < rows.length → Sl w lo (us.getD i undef) (rows.getD i []) ∧ Apart (us.getD i undef) v ∧ ∀ q, (us.getD i undef).ownBlock = some q → q < hi) ∧
    (∀ i j, i < j → j < rows.length → Apart (us.getD i undef) (us.getD j undef)) ∧ ∀ q, v.ownBlock = some q → q < hi

theorem slh_of {w : World} {lo : Nat} {v : Value} {xs : List Int} (h : Sl w lo v xs) : Slh w lo w.heap.size v xs := ⟨h, fun q hq => (h.1.lt q hq).2⟩
theorem sl2h_of {w : World} {lo : Nat} {v : Value} {rows : List (List Int)} (h : Sl2 w lo v rows) : Sl2h w lo w.heap.size v rows := by
  obtain ⟨us, h1, h2, h3, h4, h5⟩ := h
  exact ⟨us, h1, h2, h3, fun i hi => ⟨(h4 i hi).1, (h4 i hi).2, fun q hq => ((h4 i hi).1.1.lt q hq).2⟩, h5, fun q hq => (h3.lt q hq).2⟩
theorem sl2h_sl2 {w : World} {lo hi : Nat} {v : Value} {rows : List (List Int)} (h : Sl2h w lo hi v rows) : Sl2 w lo v rows := by
  obtain ⟨us, h1, h2, h3, h4, h5, _⟩ := h
  exact ⟨us, h1, h2, h3, fun i hi => ⟨(h4 i hi).1, (h4 i hi).2.1⟩, h5⟩
theorem Slh.rd {w : World} {lo hi : Nat} {v : Value} {xs : List Int} (h : Slh w lo hi v xs) : Rd w v xs := h.1.rd
theorem Sl2h.rd {w : World} {lo hi : Nat} {v : Value} {rows : List (List Int)} (h : Sl2h w lo hi v rows) : Rd2 w v rows := sl2_rd (sl2h_sl2 h)

theorem slh_below {w w' : World} {lo hi : Nat} {v : Value} {xs : List Int} (hb : Below w.heap.size w w') (h : Slh w lo hi v xs) : Slh w' lo hi v xs := ⟨sl_below hb h.1, h.2⟩
theorem sl2h_below {w w' : World} {lo hi : Nat} {v : Value} {rows : List (List Int)} (hb : Below w.heap.size w w') (h : Sl2h w lo hi v rows) : Sl2h w' lo hi v rows := by
  obtain ⟨us, h1, h2, h3, h4, h5, h6⟩ := h
  exact ⟨us, h1, h2, own_below hb h3, fun i hi => ⟨sl_below hb (h4 i hi).1, (h4 i hi).2⟩, h5, h6⟩

theorem own_fr {w w' : World} {lo hi base : Nat} {e : TypeId} {sz : Nat} {v : Value} {n : Nat} {xs : List Value} (hf : Fr lo hi w w') (h : w.ownsRow base e sz v n xs) (hv : ∀ q, v.ownBlock = some q → q < lo ∨ hi ≤ q) : w'.ownsRow base e sz v n xs := by
  obtain ⟨h3, h4⟩ := h
  refine ⟨h3, ?_⟩
  rcases h4 with h | ⟨g, cap, cur, rfl, hbb, hg, rest⟩
  · exact .inl h
  · exact .inr ⟨g, cap, cur, rfl, hbb, by rw [hf.block g (Array.getElem?_eq_some_iff.1 hg).1 (hv g rfl)]; exact hg, rest⟩

theorem slh_fr {w w' : World} {lo hi l h : Nat} {v : Value} {xs : List Int} (hf : Fr lo hi w w') (hs : Slh w l h v xs) (hd : h ≤ lo ∨ hi ≤ l) : Slh w' l h v xs :=
  ⟨⟨own_fr hf hs.1.1 fun q hq => by have := hs.2 q hq; have := (hs.1.1.lt q hq).1; omega, hs.1.2⟩, hs.2⟩
theorem sl2h_fr {w w' : World} {lo hi l h : Nat} {v : Value} {rows : List (List Int)} (hf : Fr lo hi w w') (hs : Sl2h w l h v rows) (hd : h ≤ lo ∨ hi ≤ l) : Sl2h w' l h v rows := by
  obtain ⟨us, h1, h2, h3, h4, h5, h6⟩ := hs
  refine ⟨us, h1, h2, own_fr hf h3 fun q hq => by have := h6 q hq; have := (h3.lt q hq).1; omega, fun i hi' => ⟨?_, (h4 i hi').2⟩, h5, h6⟩
  have hi2 := h4 i hi'
  exact ⟨own_fr hf hi2.1.1 fun q hq => by have := hi2.2.2 q hq; have := (hi2.1.1.lt q hq).1; omega, hi2.1.2⟩

theorem markh_any (w : World) (lo hi : Nat) (v : Value) (xs : List Int) (k0 : Int) (h : Slh w lo hi v xs) (hk0 : 0 ≤ k0) (hk1 : k0 ≤ 1152921504606846976) :
    Calls Try.prog 33 #[v, .int .i64 k0] w (fun e w' => e = .returned (.int .i64 (k0 + xs.length)) ∧ Slh w' lo hi v (upTo k0 xs.length) ∧ Fr lo hi w w') :=
  (mark_any w lo v xs k0 h.1 hk0 hk1).mono fun _ _ ⟨h1, h2, h3⟩ => ⟨h1, ⟨h2, h.2⟩, fr_grown h3 fun q hq => ⟨(h.1.1.lt q hq).1, h.2 q hq⟩⟩

/-- How many numbers stand in the first j rows. -/
def offR (rows : List (List Int)) : Nat → Nat
  | 0 => 0
  | j + 1 => offR rows j + (rows.getD j []).length
def mk2 (k0 : Int) (rows : List (List Int)) (i : Nat) : List (List Int) := (List.range rows.length).map fun j => if j < i then upTo (k0 + (offR rows j : Int)) (rows.getD j []).length else rows.getD j []
theorem mk2_len (k0 : Int) (rows : List (List Int)) (i : Nat) : (mk2 k0 rows i).length = rows.length := by simp [mk2]
theorem mk2_getD {k0 : Int} {rows : List (List Int)} {i j : Nat} (hj : j < rows.length) : (mk2 k0 rows i).getD j [] = if j < i then upTo (k0 + (offR rows j : Int)) (rows.getD j []).length else rows.getD j [] := by
  simp [mk2, List.getD_eq_getElem?_getD, hj]
theorem mk2_zero (k0 : Int) (rows : List (List Int)) : mk2 k0 rows 0 = rows := by
  apply List.ext_getElem (by simp [mk2])
  intro i h1 h2
  simp [mk2, List.getD_eq_getElem?_getD, h2]
theorem offR_mono (rows : List (List Int)) : ∀ i j, i ≤ j → offR rows i ≤ offR rows j := by
  intro i j h
  induction j with
  | zero => have : i = 0 := by omega
            subst this; exact Nat.le_refl _
  | succ j ih =>
    by_cases he : i = j + 1
    · subst he; exact Nat.le_refl _
    · have := ih (by omega)
      simp only [offR]
      omega

set_option maxHeartbeats 800000 in
set_option maxRecDepth 100000 in
theorem mark2_any (w : World) (lo hi : Nat) (v : Value) (rows : List (List Int)) (k0 : Int) (h : Sl2h w lo hi v rows) (hk0 : 0 ≤ k0) (hk1 : k0 + (offR rows rows.length : Int) ≤ 1152921504606846976) :
    Calls Try.prog 70 #[v, .int .i64 k0] w (fun e w' => e = .returned (.int .i64 (k0 + (offR rows rows.length : Int))) ∧ Sl2h w' lo hi v (mk2 k0 rows rows.length) ∧ Fr lo hi w w') := by
  obtain ⟨a, cap, rfl, hf⟩ := sl2_form (sl2h_sl2 h)
  have HF := Lib.hid hf; clear hf
  have hrl : rows.length ≤ 5000000000000 := by obtain ⟨us, _, h2, _⟩ := h; exact h2
  have H := Lib.hid h; clear h
  have HMONO := Lib.hid (offR_mono rows)
  go_enter Try.func70, Try.ntmps70
  go_wp2
  go_loopw [1, 5] (fun c i wr => ∃ k : Nat, k ≤ rows.length ∧ i = .int .i64 k ∧ c = .int .i64 (k0 + (offR rows k : Int)) ∧ Sl2h wr lo hi (.slice a rows.length cap) (mk2 k0 rows k) ∧ Fr lo hi w wr) (fun _ i _ => rows.length - (intOf i).toNat)
  case atStart => exact ⟨0, Nat.zero_le _, rfl, by simp [offR], by rw [mk2_zero]; exact H.out, Fr.refl _ _ _⟩
  case round =>
    obtain ⟨k, hk, rfl, rfl, hs, hfr⟩ := hrel
    by_cases hlt : k < rows.length
    · obtain ⟨g, rfl⟩ := HF.out k hlt
      obtain ⟨us, h1, h2, h3, h4, h5, h6⟩ := hs
      rw [mk2_len] at h1 h2 h3 h4 h5
      have hrow := h4 k hlt
      rw [mk2_getD hlt, if_neg (Nat.lt_irrefl _)] at hrow
      have c1 : wr.cell? ⟨g, k, none⟩ = some (us.getD k undef) := by
        rw [h3.cellAt k (by omega), List.getD_eq_getElem?_getD, List.getElem?_eq_getElem (by omega)]; rfl
      have hm1 := HMONO.out (k + 1) rows.length (by omega)
      have hoff : offR rows (k + 1) = offR rows k + (rows.getD k []).length := rfl
      obtain ⟨ra, rc, hrv, _⟩ := sl_form hrow.1
      obtain ⟨u, hu⟩ : ∃ u, u = us.getD k undef := ⟨_, rfl⟩
      rw [← hu] at c1 hrow hrv
      obtain ⟨r, hr⟩ : ∃ r, r = rows.getD k [] := ⟨_, rfl⟩
      rw [← hr] at hrow hoff hrv
      obtain ⟨n, hn⟩ : ∃ n, n = offR rows k := ⟨_, rfl⟩
      rw [← hn] at hoff
      rw [← hn]
      have HU := Lib.hid hu; have HR := Lib.hid hr; have HN := Lib.hid hn; have HOFF := Lib.hid hoff; have HROW := Lib.hid hrow
      have hkn : k0 + (n : Int) + (r.length : Int) ≤ 1152921504606846976 := by omega
      have H3 := Lib.hid h3; have H4 := Lib.hid h4; have H5 := Lib.hid h5; have H1 := Lib.hid h1; have H6 := Lib.hid h6
      clear hu hr hn hoff hrow h3 h4 h5 h1 h6 hm1 hrv
      go_wp2_with fail
      refine (mark_any _ lo _ r (k0 + (n : Int)) HROW.out.1 (by omega) (by omega)).mono ?_; rintro e w2 ⟨rfl, hs2, hg2⟩
      have hnew : Sl2h w2 lo hi (.slice (some ⟨g, 0, none⟩) rows.length cap) (mk2 k0 rows (k + 1)) := by
        refine ⟨us, by rw [mk2_len]; exact H1.out, by rw [mk2_len]; exact hrl, by rw [mk2_len]; exact H3.out.kept hg2 (.inr fun e => HROW.out.2.1 g e.symm rfl), fun i hi' => ?_, fun i j hij hj => ?_, H6.out⟩
        · rw [mk2_len] at hi'
          rw [mk2_getD hi']
          have hold := H4.out i hi'
          rw [mk2_getD hi'] at hold
          by_cases hik : i = k
          · subst hik
            rw [if_pos (by omega), ← HU.out, ← HR.out, ← HN.out]
            exact ⟨hs2, HROW.out.2⟩
          · have e1 : (i < k + 1) = (i < k) := by rw [eq_iff_iff]; omega
            simp only [e1]
            refine ⟨sl_kept hold.1 hg2 (apart_ne ?_), hold.2⟩
            rw [HU.out]
            rcases Nat.lt_or_ge i k with h | h
            · exact H5.out i k h hlt
            · exact (H5.out k i (by omega) hi').symm
        · rw [mk2_len] at hj
          exact H5.out i j hij hj
      have hfr2 := hfr.trans (fr_grown (lo := lo) (hi := hi) hg2 fun q hq => ⟨(HROW.out.1.1.lt q hq).1, HROW.out.2.2 q hq⟩)
      have HNEW := Lib.hid hnew; clear hnew hs2 hfr hg2
      go_wp2
      go_roundw
      case rel => exact ⟨k + 1, by omega, by go_num, by rw [HOFF.out]; go_num, HNEW.out, hfr2⟩
      case measure => simp [intOf]; omega
    · obtain rfl : k = rows.length := by omega
      go_wp2
      go_ret
      exact ⟨rfl, hs, hfr⟩

set_option maxHeartbeats 800000 in
set_option maxRecDepth 100000 in
theorem held2_any (w : World) (v : Value) (rows : List (List Int)) (k0 : Int) (h : Rd2 w v (mk2 k0 rows rows.length)) (hk0 : 0 ≤ k0) (hk1 : k0 + (offR rows rows.length : Int) ≤ 1152921504606846976) :
    Calls Try.prog 77 #[v, .int .i64 k0] w (RetI w (k0 + (offR rows rows.length : Int))) := by
  obtain ⟨a, cap, rfl, hl, hc⟩ := h
  have hle := mk2_len k0 rows rows.length
  rw [hle] at hl hc ⊢
  have HC := Lib.hid hc; clear hc hle
  have HMONO := Lib.hid (offR_mono rows)
  go_enter Try.func77, Try.ntmps77
  go_wp2
  go_loopw [1, 5] (fun c i wr => ∃ k : Nat, k ≤ rows.length ∧ i = .int .i64 k ∧ c = .int .i64 (k0 + (offR rows k : Int)) ∧ Below w.heap.size w wr) (fun _ i _ => rows.length - (intOf i).toNat)
  case atStart => exact ⟨0, Nat.zero_le _, rfl, by simp [offR], Below.refl _ _⟩
  case round =>
    obtain ⟨k, hk, rfl, rfl, hbel⟩ := hrel
    by_cases hlt : k < rows.length
    · obtain ⟨b, off, rfl, hb, hcell⟩ := HC.out k hlt
      obtain ⟨u, hu1, hu2⟩ := hcell k hlt
      rw [mk2_getD hlt, if_pos hlt] at hu2
      have c1 : wr.cell? ⟨b, off + k, none⟩ = some u := (hbel.cell (p := ⟨b, off + k, none⟩) hb).trans hu1
      have hr := rd_below hbel hu2
      have hm1 := HMONO.out (k + 1) rows.length (by omega)
      have hoff : offR rows (k + 1) = offR rows k + (rows.getD k []).length := rfl
      obtain ⟨r, hrd⟩ : ∃ r, r = rows.getD k [] := ⟨_, rfl⟩
      rw [← hrd] at hr hoff
      obtain ⟨n, hn⟩ : ∃ n, n = offR rows k := ⟨_, rfl⟩
      rw [← hn] at hoff hr
      rw [← hn]
      have hkn : k0 + (n : Int) + (r.length : Int) ≤ 1152921504606846976 := by omega
      have HOFF := Lib.hid hoff; clear hoff hm1 hrd hn hcell hu1 hu2
      go_wp2_with fail
      refine (held_any _ _ r.length (k0 + (n : Int)) hr (by omega) (by omega)).mono ?_; rintro e w2 ⟨rfl, hb2⟩
      go_wp2
      go_roundw
      case rel => exact ⟨k + 1, by omega, by go_num, by rw [HOFF.out]; go_num, hbel.trans (hb2.mono hbel.size)⟩
      case measure => simp [intOf]; omega
    · obtain rfl : k = rows.length := by omega
      go_wp2
      go_ret
      exact ⟨rfl, hbel⟩

end Go.Proofs.Ytakifeiemcldlaa
