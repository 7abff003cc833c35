
/- Which blocks a value owns, as a set of block numbers; values made of several parts own disjoint sets. -/
import Derived.Test.YtakifeiemcldlaaRows3
namespace Go.Proofs.Ytakifeiemcldlaa
open Go.RowKit

def Agree (S : Nat → Prop) (w w' : World) : Prop := ∀ k, k < w.heap.size → S k → w'.heap[k]? = w.heap[k]?

/-- Outside the blocks of S the world is as it was. -/
structure FrS (S : Nat → Prop) (w w' : World) : Prop where
  os : w'.os = w.os
  tape : w'.tape = w.tape
  output : w'.output = w.output
  size : w.heap.size ≤ w'.heap.size
  block : ∀ k, k < w.heap.size → ¬ S k → w'.heap[k]? = w.heap[k]?

theorem FrS.refl (S : Nat → Prop) (w : World) : FrS S w w := ⟨rfl, rfl, rfl, Nat.le_refl _, fun _ _ _ => rfl⟩
theorem FrS.trans {S : Nat → Prop} {a b c : World} (h : FrS S a b) (k : FrS S b c) : FrS S a c :=
  ⟨k.os.trans h.os, k.tape.trans h.tape, k.output.trans h.output, Nat.le_trans h.size k.size, fun i hi' hr => (k.block i (Nat.lt_of_lt_of_le hi' h.size) hr).trans (h.block i hi' hr)⟩
theorem FrS.mono {S T : Nat → Prop} {a b : World} (h : FrS S a b) (hs : ∀ k, S k → T k) : FrS T a b :=
  ⟨h.os, h.tape, h.output, h.size, fun i hi hr => h.block i hi fun e => hr (hs i e)⟩
theorem frS_grown {S : Nat → Prop} {w w' : World} {v : Value} (hg : w.grownBy w' v.ownBlock) (hv : ∀ q, v.ownBlock = some q → S q) : FrS S w w' :=
  ⟨hg.os, hg.tape, hg.output, hg.size, fun k hk hr => hg.block k hk fun e => hr (hv k e.symm)⟩
theorem frS_below {B : Nat} {w w' : World} (hb : Below B w w') : FrS (fun k => B ≤ k) w w' :=
  ⟨hb.os, hb.tape, hb.output, hb.size, fun k _ hr => hb.block k (by omega)⟩
theorem below_frS {B : Nat} {W w w' : World} {S : Nat → Prop} (hb : Below B W w) (hf : FrS S w w') (hB : B ≤ W.heap.size) (hlo : ∀ k, S k → B ≤ k) : Below B W w' :=
  hb.trans ⟨hf.os, hf.tape, hf.output, hf.size, fun k hk => hf.block k (by have := hb.size; omega) (fun e => by have := hlo k e; omega)⟩
theorem agree_frS {S T : Nat → Prop} {w w' : World} (hf : FrS S w w') (h : ∀ k, S k → ¬ T k) : Agree T w w' := fun k hk ht => hf.block k hk fun e => h k e ht
theorem agree_below {S : Nat → Prop} {w w' : World} (hb : Below w.heap.size w w') : Agree S w w' := fun k hk _ => hb.block k hk
theorem agree_refl {S : Nat → Prop} {w : World} : Agree S w w := fun _ _ _ => rfl

/-- What is said of a world and a set of blocks holds in each world that has the blocks of the set, and of each greater set; the blocks are there. -/
structure Loc (P : World → (Nat → Prop) → Prop) : Prop where
  keep : ∀ {w w' : World} {S S' : Nat → Prop}, (∀ k, k < w.heap.size → S k → S' k) → Agree S w w' → P w S → P w' S'

theorem Loc.fin {P : World → (Nat → Prop) → Prop} (h : Loc P) {w : World} {S : Nat → Prop} (hp : P w S) : P w (fun k => S k ∧ k < w.heap.size) :=
  h.keep (fun _ hk hs => ⟨hs, hk⟩) agree_refl hp

def Own1 (v : Value) (xs : List Int) (w : World) (S : Nat → Prop) : Prop := Sl w 0 v xs ∧ ∀ q, v.ownBlock = some q → S q
def Own2 (v : Value) (rows : List (List Int)) (w : World) (S : Nat → Prop) : Prop :=
  ∃ us : List Value, us.length = rows.length ∧ rows.length ≤ 5000000000000 ∧ w.ownsRow 0 22 1 v rows.length us ∧
    (∀ i, i < rows.length → Sl w 0 (us.getD i undef) (rows.getD i []) ∧ Apart (us.getD i undef) v ∧ ∀ q, (us.getD i undef).ownBlock = some q → S q) ∧
    (∀ i j, i < j → j < rows.length → Apart (us.getD i undef) (us.getD j undef)) ∧ ∀ q, v.ownBlock = some q → S q
/-- Two things in disjoint blocks. -/
def Sep (A B : World → (Nat → Prop) → Prop) (w : World) (S : Nat → Prop) : Prop :=
  ∃ S1 S2 : Nat → Prop, (∀ k, S1 k → S k) ∧ (∀ k, S2 k → S k) ∧ (∀ k, S1 k → ¬ S2 k) ∧ A w S1 ∧ B w S2

theorem own_agree {w w' : World} {base : Nat} {e : TypeId} {sz : Nat} {v : Value} {n : Nat} {xs : List Value} (h : w.ownsRow base e sz v n xs) (hk : ∀ q, q < w.heap.size → v.ownBlock = some q → w'.heap[q]? = w.heap[q]?) : w'.ownsRow base e sz v n xs := by
  obtain ⟨h3, h4⟩ := h
  refine ⟨h3, ?_⟩
  rcases h4 with h | ⟨g, cap, cur, rfl, hbb, hg, rest⟩
  · exact .inl h
  · exact .inr ⟨g, cap, cur, rfl, hbb, by rw [hk g (Array.getElem?_eq_some_iff.1 hg).1 rfl]; exact hg, rest⟩

theorem own1_loc (v : Value) (xs : List Int) : Loc (Own1 v xs) where
  keep hs ha h := ⟨⟨own_agree h.1.1 fun q hq e => ha q hq (h.2 q e), h.1.2⟩, fun q hq => hs q (h.1.1.lt q hq).2 (h.2 q hq)⟩

theorem own2_loc (v : Value) (rows : List (List Int)) : Loc (Own2 v rows) where
  keep hs ha h := by
    obtain ⟨us, h1, h2, h3, h4, h5, h6⟩ := h
    exact ⟨us, h1, h2, own_agree h3 fun q hq e => ha q hq (h6 q e), fun i hi => ⟨⟨own_agree (h4 i hi).1.1 fun q hq e => ha q hq ((h4 i hi).2.2 q e), (h4 i hi).1.2⟩, (h4 i hi).2.1, fun q hq => hs q ((h4 i hi).1.1.lt q hq).2 ((h4 i hi).2.2 q hq)⟩, h5, fun q hq => hs q (h3.lt q hq).2 (h6 q hq)⟩

theorem sep_loc {A B : World → (Nat → Prop) → Prop} (ha : Loc A) (hb : Loc B) : Loc (Sep A B) where
  keep {w w' S S'} hs hag h := by
    obtain ⟨S1, S2, k1, k2, hd, h1, h2⟩ := h
    refine ⟨fun k => S1 k ∧ k < w.heap.size, fun k => S2 k ∧ k < w.heap.size, fun k h => hs k h.2 (k1 k h.1), fun k h => hs k h.2 (k2 k h.1), fun k a b => hd k a.1 b.1, ?_, ?_⟩
    · exact ha.keep (fun _ hk hs => ⟨hs, hk⟩) (fun k hk hh => hag k hk (k1 k hh)) h1
    · exact hb.keep (fun _ hk hs => ⟨hs, hk⟩) (fun k hk hh => hag k hk (k2 k hh)) h2

theorem Own1.rd {w : World} {S : Nat → Prop} {v : Value} {xs : List Int} (h : Own1 v xs w S) : Rd w v xs := h.1.rd
theorem Own2.sl {w : World} {S : Nat → Prop} {v : Value} {rows : List (List Int)} (h : Own2 v rows w S) : Sl2 w 0 v rows := by
  obtain ⟨us, h1, h2, h3, h4, h5, _⟩ := h
  exact ⟨us, h1, h2, h3, fun i hi => ⟨(h4 i hi).1, (h4 i hi).2.1⟩, h5⟩
theorem Own2.rd {w : World} {S : Nat → Prop} {v : Value} {rows : List (List Int)} (h : Own2 v rows w S) : Rd2 w v rows := sl2_rd h.sl

theorem own1_of {w : World} {lo : Nat} {v : Value} {xs : List Int} (h : Sl w lo v xs) : Own1 v xs w (fun k => lo ≤ k) := ⟨h.mono (Nat.zero_le _), fun q hq => (h.1.lt q hq).1⟩
theorem own_base {w : World} {lo : Nat} {e : TypeId} {sz : Nat} {v : Value} {n : Nat} {xs : List Value} (h : w.ownsRow lo e sz v n xs) : w.ownsRow 0 e sz v n xs := by
  obtain ⟨h3, h4⟩ := h
  refine ⟨h3, ?_⟩
  rcases h4 with h | ⟨g, cap, cur, rfl, hbb, rest⟩
  · exact .inl h
  · exact .inr ⟨g, cap, cur, rfl, Nat.zero_le _, rest⟩
theorem own2_of {w : World} {lo : Nat} {v : Value} {rows : List (List Int)} (h : Sl2 w lo v rows) : Own2 v rows w (fun k => lo ≤ k) := by
  obtain ⟨us, h1, h2, h3, h4, h5⟩ := h
  exact ⟨us, h1, h2, own_base h3, fun i hi => ⟨(h4 i hi).1.mono (Nat.zero_le _), (h4 i hi).2, fun q hq => ((h4 i hi).1.1.lt q hq).1⟩, h5, fun q hq => (h3.lt q hq).1⟩

theorem own_lift {w : World} {lo : Nat} {e : TypeId} {sz : Nat} {v : Value} {n : Nat} {xs : List Value} (h : w.ownsRow 0 e sz v n xs) (hq : ∀ q, v.ownBlock = some q → lo ≤ q) : w.ownsRow lo e sz v n xs := by
  obtain ⟨h3, h4⟩ := h
  refine ⟨h3, ?_⟩
  rcases h4 with h | ⟨g, cap, cur, rfl, hbb, rest⟩
  · exact .inl h
  · exact .inr ⟨g, cap, cur, rfl, hq g rfl, rest⟩
theorem Own1.at {w : World} {S : Nat → Prop} {lo : Nat} {v : Value} {xs : List Int} (h : Own1 v xs w S) (hs : ∀ k, S k → lo ≤ k) : Sl w lo v xs := ⟨own_lift h.1.1 fun q hq => hs q (h.2 q hq), h.1.2⟩
theorem Own2.at {w : World} {S : Nat → Prop} {lo : Nat} {v : Value} {rows : List (List Int)} (h : Own2 v rows w S) (hs : ∀ k, S k → lo ≤ k) : Sl2 w lo v rows := by
  obtain ⟨us, h1, h2, h3, h4, h5, h6⟩ := h
  exact ⟨us, h1, h2, own_lift h3 fun q hq => hs q (h6 q hq), fun i hi => ⟨⟨own_lift (h4 i hi).1.1 fun q hq => hs q ((h4 i hi).2.2 q hq), (h4 i hi).1.2⟩, (h4 i hi).2.1⟩, h5⟩

/-- The blocks lo, .., hi - 1. -/
def span (lo hi : Nat) (k : Nat) : Prop := lo ≤ k ∧ k < hi
/-- What a call handed back lies in the blocks that it made. -/
theorem Loc.span {P : World → (Nat → Prop) → Prop} (h : Loc P) {w : World} {lo : Nat} (hp : P w (fun k => lo ≤ k)) : P w (span lo w.heap.size) := h.fin hp
theorem Loc.below {P : World → (Nat → Prop) → Prop} (h : Loc P) {w w' : World} {S : Nat → Prop} (hb : Below w.heap.size w w') (hp : P w S) : P w' S := h.keep (fun _ _ hs => hs) (agree_below hb) hp
theorem Loc.fr {P : World → (Nat → Prop) → Prop} (h : Loc P) {w w' : World} {lo hi l r : Nat} (hf : FrS (Go.Proofs.Ytakifeiemcldlaa.span lo hi) w w') (hp : P w (Go.Proofs.Ytakifeiemcldlaa.span l r)) (hd : r ≤ lo ∨ hi ≤ l) : P w' (Go.Proofs.Ytakifeiemcldlaa.span l r) :=
  h.keep (fun _ _ hs => hs) (agree_frS hf fun k h1 h2 => by unfold Go.Proofs.Ytakifeiemcldlaa.span at h1 h2; omega) hp
theorem below_span {B : Nat} {W w w' : World} {lo hi : Nat} (hb : Below B W w) (hf : FrS (span lo hi) w w') (hB : B ≤ W.heap.size) (hlo : B ≤ lo) : Below B W w' :=
  below_frS hb hf hB fun k hk => Nat.le_trans hlo hk.1

theorem markS_any (w : World) (S : Nat → Prop) (v : Value) (xs : List Int) (k0 : Int) (h : Own1 v xs w S) (hk0 : 0 ≤ k0) (hk1 : k0 ≤ 1152921504606846976) :
    Calls Try.prog 33 #[v, .int .i64 k0] w (fun e w' => e = .returned (.int .i64 (k0 + xs.length)) ∧ Own1 v (upTo k0 xs.length) w' S ∧ FrS S w w') :=
  (mark_any w 0 v xs k0 h.1 hk0 hk1).mono fun _ _ ⟨h1, h2, h3⟩ => ⟨h1, ⟨h2, h.2⟩, frS_grown h3 h.2⟩

set_option maxHeartbeats 800000 in
set_option maxRecDepth 100000 in
theorem markS2_any (w : World) (S : Nat → Prop) (v : Value) (rows : List (List Int)) (k0 : Int) (h : Own2 v rows w S) (hk0 : 0 ≤ k0) (hk1 : k0 + (offR rows rows.length : Int) ≤ 1152921504606846976) :
    Calls Try.prog 70 #[v, .int .i64 k0] w (fun e w' => e = .returned (.int .i64 (k0 + (offR rows rows.length : Int))) ∧ Own2 v (mk2 k0 rows rows.length) w' S ∧ FrS S w w') := by
  obtain ⟨a, cap, rfl, hf⟩ := sl2_form h.sl
  have HF := Lib.hid hf; clear hf
  have hrl : rows.length ≤ 5000000000000 := by obtain ⟨us, _, h2, _⟩ := h; exact h2
  have H := Lib.hid h; clear h
  have HMONO := Lib.hid (offR_mono rows)
  go_enter Try.func70, Try.ntmps70
  go_wp2
  go_loopw [1, 5] (fun c i wr => ∃ k : Nat, k ≤ rows.length ∧ i = .int .i64 k ∧ c = .int .i64 (k0 + (offR rows k : Int)) ∧ Own2 (.slice a rows.length cap) (mk2 k0 rows k) wr S ∧ FrS S w wr) (fun _ i _ => rows.length - (intOf i).toNat)
  case atStart => exact ⟨0, Nat.zero_le _, rfl, by simp [offR], by rw [mk2_zero]; exact H.out, FrS.refl _ _⟩
  case round =>
    obtain ⟨k, hk, rfl, rfl, hs, hfr⟩ := hrel
    by_cases hlt : k < rows.length
    · obtain ⟨g, rfl⟩ := HF.out k hlt
      obtain ⟨us, h1, h2, h3, h4, h5, h6⟩ := hs
      rw [mk2_len] at h1 h2 h3 h4 h5
      have hrow := h4 k hlt
      rw [mk2_getD hlt, if_neg (Nat.lt_irrefl _)] at hrow
      have c1 : wr.cell? ⟨g, k, none⟩ = some (us.getD k undef) := by
        rw [h3.cellAt k (by omega), List.getD_eq_getElem?_getD, List.getElem?_eq_getElem (by omega)]; rfl
      have hm1 := HMONO.out (k + 1) rows.length (by omega)
      have hoff : offR rows (k + 1) = offR rows k + (rows.getD k []).length := rfl
      obtain ⟨ra, rc, hrv, _⟩ := sl_form hrow.1
      obtain ⟨u, hu⟩ : ∃ u, u = us.getD k undef := ⟨_, rfl⟩
      rw [← hu] at c1 hrow hrv
      obtain ⟨r, hr⟩ : ∃ r, r = rows.getD k [] := ⟨_, rfl⟩
      rw [← hr] at hrow hoff hrv
      obtain ⟨n, hn⟩ : ∃ n, n = offR rows k := ⟨_, rfl⟩
      rw [← hn] at hoff
      rw [← hn]
      have HU := Lib.hid hu; have HR := Lib.hid hr; have HN := Lib.hid hn; have HOFF := Lib.hid hoff; have HROW := Lib.hid hrow
      have hkn : k0 + (n : Int) + (r.length : Int) ≤ 1152921504606846976 := by omega
      have H3 := Lib.hid h3; have H4 := Lib.hid h4; have H5 := Lib.hid h5; have H1 := Lib.hid h1; have H6 := Lib.hid h6
      clear hu hr hn hoff hrow h3 h4 h5 h1 h6 hm1 hrv
      go_wp2_with fail
      refine (mark_any _ 0 _ r (k0 + (n : Int)) HROW.out.1 (by omega) (by omega)).mono ?_; rintro e w2 ⟨rfl, hs2, hg2⟩
      have hnew : Own2 (.slice (some ⟨g, 0, none⟩) rows.length cap) (mk2 k0 rows (k + 1)) w2 S := by
        refine ⟨us, by rw [mk2_len]; exact H1.out, by rw [mk2_len]; exact hrl, by rw [mk2_len]; exact H3.out.kept hg2 (.inr fun e => HROW.out.2.1 g e.symm rfl), fun i hi' => ?_, fun i j hij hj => ?_, H6.out⟩
        · rw [mk2_len] at hi'
          rw [mk2_getD hi']
          have hold := H4.out i hi'
          rw [mk2_getD hi'] at hold
          by_cases hik : i = k
          · subst hik
            rw [if_pos (by omega), ← HU.out, ← HR.out, ← HN.out]
            exact ⟨hs2, HROW.out.2⟩
          · have e1 : (i < k + 1) = (i < k) := by rw [eq_iff_iff]; omega
            simp only [e1]
            refine ⟨sl_kept hold.1 hg2 (apart_ne ?_), hold.2⟩
            rw [HU.out]
            rcases Nat.lt_or_ge i k with h | h
            · exact H5.out i k h hlt
            · exact (H5.out k i (by omega) hi').symm
        · rw [mk2_len] at hj
          exact H5.out i j hij hj
      have hfr2 := hfr.trans (frS_grown (S := S) hg2 fun q hq => HROW.out.2.2 q hq)
      have HNEW := Lib.hid hnew; clear hnew hs2 hfr hg2
      go_wp2
      go_roundw
      case rel => exact ⟨k + 1, by omega, by go_num, by rw [HOFF.out]; go_num, HNEW.out, hfr2⟩
      case measure => simp [intOf]; omega
    · obtain rfl : k = rows.length := by omega
      go_wp2
      go_ret
      exact ⟨rfl, hs, hfr⟩

end Go.Proofs.Ytakifeiemcldlaa
