
/- What a partition is: the program's own test and the model's. -/
import Derived.Test.YtakifeiemcldlabPartBy
namespace Go.Proofs.Ytakifeiemcldlab
open Go.RowKit

theorem clsOf_len (l : List Int) : (clsOf l).length = l.length := clsTo_len _ _
theorem clsOf_getD {l : List Int} {k : Nat} (hk : k < l.length) : (clsOf l).getD k 0 = ((seenOf (l.take k)).idxOf (l.getD k 0) : Int) := by
  unfold clsOf clsTo
  simp [List.getD_eq_getElem?_getD, hk]

theorem idxOf_upTo {c : Nat} {x : Int} (h0 : 0 ≤ x) (h1 : x < c) : ((upTo 0 c).idxOf x : Int) = x := by
  obtain ⟨m, rfl⟩ := Int.eq_ofNat_of_zero_le h0
  have hm : m < c := by omega
  have := idx_hit (l := upTo 0 c) (x := (m : Int)) (k := m) (by rw [upTo_length]; exact hm) (by rw [upTo_getD 0 c m hm]; simp) (fun j hj => by rw [upTo_getD 0 c j (by omega)]; omega)
  rw [this]

theorem not_mem_upTo {c : Nat} {x : Int} (h : x < 0 ∨ (c : Int) ≤ x) : x ∉ upTo 0 c := by
  intro hm
  simp only [upTo, List.mem_map, List.mem_range] at hm
  obtain ⟨j, hj, rfl⟩ := hm
  omega

theorem mem_upTo {c : Nat} {x : Int} (h0 : 0 ≤ x) (h1 : x < c) : x ∈ upTo 0 c := by
  simp only [upTo, List.mem_map, List.mem_range]
  exact ⟨x.toNat, by omega, by omega⟩

theorem upTo_succ (c : Nat) : upTo 0 (c + 1) = upTo 0 c ++ [(c : Int)] := by simp [upTo, List.range_succ]

set_option maxHeartbeats 1000000 in
set_option maxRecDepth 100000 in
theorem isProper_any (w : World) (v : Value) (p : List Int) (h : Rd w v p) :
    Calls Try.prog 87 #[v] w (RetB w (decide (p = clsOf p))) := by
  obtain ⟨a, cap, rfl, hl, hc⟩ := h
  have HC := Lib.hid hc; clear hc
  go_enter Try.func87, Try.ntmps87
  go_wp2
  go_loopw [3, 8] (fun c i wr => ∃ k m : Nat, k ≤ p.length ∧ i = .int .i64 k ∧ c = .int .i64 m ∧ m ≤ k ∧ Hid (seenOf (p.take k) = upTo 0 m) ∧ Hid (∀ j, j < k → p.getD j 0 = (clsOf p).getD j 0) ∧ Below w.heap.size w wr) (fun _ i _ => p.length - (intOf i).toNat)
  case atStart => exact ⟨0, 0, Nat.zero_le _, rfl, rfl, Nat.le_refl _, by simp [Hid, seenOf, upTo], fun j hj => absurd hj (by omega), Below.refl _ _⟩
  case round =>
    obtain ⟨k, m, hk, rfl, rfl, hmk, hseen, hall, hbel⟩ := hrel
    by_cases hlt : k < p.length
    · obtain ⟨bb, off, rfl, hbs, hcell⟩ := HC.out k hlt
      have c1 : wr.cell? ⟨bb, off + k, none⟩ = some (.int .i64 (p.getD k 0)) := (hbel.cell (p := ⟨bb, off + k, none⟩) hbs).trans (hcell k hlt)
      have hg := clsOf_getD hlt
      have hsn := seenOf_snoc (p.take k) (p.getD k 0)
      rw [← take_snoc hlt] at hsn
      rw [hseen.out] at hg hsn
      clear hcell
      obtain ⟨x, hx⟩ : ∃ x, x = p.getD k 0 := ⟨_, rfl⟩
      rw [← hx] at c1 hg hsn
      have HX := Lib.hid hx; clear hx
      by_cases hbad : x < 0 ∨ (m : Int) < x
      · have hf : decide (p = clsOf p) = false := by
          rw [decide_eq_false_iff_not]
          refine list_ne_at (k := k) hlt ?_
          rw [hg, ← HX.out, List.idxOf_eq_length (not_mem_upTo (by omega)), upTo_length]
          omega
        have HF := Lib.hid hf; clear hf hg hsn
        by_cases h0 : x < 0
        · clear hbad
          go_wp2
          go_ret
          rw [HF.out]
          exact ⟨rfl, hbel⟩
        · have h1 : (m : Int) < x := by omega
          clear hbad
          go_wp2
          go_ret
          rw [HF.out]
          exact ⟨rfl, hbel⟩
      · have h0 : 0 ≤ x := by omega
        have h1 : x ≤ m := by omega
        clear hbad
        by_cases hxm : x = m
        · subst hxm
          rw [List.idxOf_eq_length (not_mem_upTo (by omega)), upTo_length] at hg
          rw [if_neg (not_mem_upTo (by omega)), ← upTo_succ] at hsn
          have HG := Lib.hid hg; have HSN := Lib.hid hsn; clear hg hsn
          have ht : ((m : Int) == (m : Int)) = true := by simp
          go_wp2
          go_roundw
          case rel =>
            refine ⟨k + 1, m + 1, by omega, by go_num, by go_num, by omega, HSN, fun j hj => ?_, hbel⟩
            by_cases hjk : j = k
            · rw [hjk, HG.out, ← HX.out]
            · exact hall.out j (by omega)
          case measure => simp [intOf]; omega
        · have hlt2 : x < (m : Int) := by omega
          rw [idxOf_upTo h0 hlt2] at hg
          rw [if_pos (mem_upTo h0 hlt2)] at hsn
          have HG := Lib.hid hg; have HSN := Lib.hid hsn; clear hg hsn
          have ht : (x == (m : Int)) = false := by simpa using hxm
          clear hxm
          go_wp2
          go_roundw
          case rel =>
            refine ⟨k + 1, m, by omega, by go_num, rfl, by omega, HSN, fun j hj => ?_, hbel⟩
            by_cases hjk : j = k
            · rw [hjk, HG.out, ← HX.out]
            · exact hall.out j (by omega)
          case measure => simp [intOf]; omega
    · obtain rfl : k = p.length := by omega
      have hf : decide (p = clsOf p) = true := by
        rw [decide_eq_true_iff]
        exact list_eq_all (clsOf_len p).symm (fun j hj => hall.out j hj)
      have HF := Lib.hid hf; clear hf
      go_wp2
      go_ret
      rw [HF.out]
      exact ⟨rfl, hbel⟩

def PartP (p : List Int) : Prop := p.length ≤ 256 ∧ p = clsOf p
instance (p : List Int) : Decidable (PartP p) := inferInstanceAs (Decidable (_ ∧ _))
def fIsPartition (p : List Int) : Bool := decide (PartP p)

set_option maxHeartbeats 400000 in
set_option maxRecDepth 100000 in
theorem spec_IsPartition (w : World) (v : Value) (p : List Int) (h : Rd w v p) :
    Calls Try.prog 127 #[v] w (RetB w (fIsPartition p)) := by
  have R := h
  obtain ⟨a, cap, rfl, hl, _⟩ := h
  by_cases h2 : p.length ≤ 256
  · have he : fIsPartition p = decide (p = clsOf p) := by simp [fIsPartition, PartP, h2]
    rw [he]
    go_enter Try.func127, Try.ntmps127
    go_wp2_with fail
    refine (specClasses_any _ _ _ R).mono ?_; rintro e w1 ⟨y, rfl, hs, hb1⟩
    go_wp2_with fail
    refine (specSame_any _ _ _ _ _ (rd_below hb1 R) hs.rd).mono ?_; rintro e w2 ⟨rfl, hb2⟩
    go_wp2
    go_ret
    exact ⟨rfl, hb1.trans (hb2.mono hb1.size)⟩
  · have he : fIsPartition p = false := by simp [fIsPartition, PartP, h2]
    rw [he]
    go_enter Try.func127, Try.ntmps127
    go_wp2
    go_ret
    exact ⟨rfl, Below.refl _ _⟩

set_option maxHeartbeats 400000 in
set_option maxRecDepth 100000 in
theorem impl_IsPartition (w : World) (v : Value) (p : List Int) (h : Rd w v p) :
    Calls Try.prog 34 #[v] w (RetB w (fIsPartition p)) := by
  have R := h
  obtain ⟨a, cap, rfl, hl, _⟩ := h
  by_cases h2 : p.length ≤ 256
  · have he : fIsPartition p = decide (p = clsOf p) := by simp [fIsPartition, PartP, h2]
    rw [he]
    go_enter Try.func34, Try.ntmps34
    go_wp2_with fail
    refine (isProper_any _ _ _ R).mono ?_; rintro e w1 ⟨rfl, hb1⟩
    go_wp2
    go_ret
    exact ⟨rfl, hb1⟩
  · have he : fIsPartition p = false := by simp [fIsPartition, PartP, h2]
    rw [he]
    go_enter Try.func34, Try.ntmps34
    go_wp2
    go_ret
    exact ⟨rfl, Below.refl _ _⟩

end Go.Proofs.Ytakifeiemcldlab
