
/- MeetPartitions: the program and its model. -/
import Derived.Deep.RegionHeld3
import Derived.Deep.AppendLies
import Derived.StillTailTactics
import Derived.Test.YtgkfampgofjkfaaIdx
set_option linter.unusedSimpArgs false
set_option linter.unusedVariables false
set_option linter.unusedSectionVars false
namespace Go.Proofs.Ytgkfampgofjkfaa
open Go.RowKit

def BothP (p q : List Int) : Prop := PartP p ∧ PartP q ∧ p.length = q.length
instance (p q : List Int) : Decidable (BothP p q) := inferInstanceAs (Decidable (_ ∧ _))
def meetL (p q : List Int) (k : Nat) : List Int := (List.range k).map fun (j : Nat) => p.getD j 0 * 256 + q.getD j 0
def fMeetPartitions (p q : List Int) : List Int × Int := if BothP p q then (clsOf (meetL p q p.length), 0) else ([], 1)

theorem meetL_len (p q : List Int) (k : Nat) : (meetL p q k).length = k := by simp [meetL]
theorem meetL_snoc (p q : List Int) (k : Nat) : meetL p q (k + 1) = meetL p q k ++ [p.getD k 0 * 256 + q.getD k 0] := by simp [meetL, List.range_succ]

theorem part_range {p : List Int} (h : PartP p) {k : Nat} (hk : k < p.length) : 0 ≤ p.getD k 0 ∧ p.getD k 0 ≤ 256 := by
  obtain ⟨h1, h2⟩ := h
  have h3 := clsOf_getD hk
  rw [← h2] at h3
  rw [h3]
  have h4 := idx_lt (s := seenOf (p.take k)) (x := p.getD k 0)
  have h5 := seenOf_len (p.take k)
  simp at h5
  omega

theorem getD_of_mem {l : List Int} {x : Int} (hx : x ∈ l) : ∃ j, j < l.length ∧ l.getD j 0 = x := by
  obtain ⟨j, hj, rfl⟩ := List.getElem_of_mem hx
  exact ⟨j, hj, by simp [List.getD_eq_getElem?_getD, hj]⟩

theorem meetL_wf {p q : List Int} (h : BothP p q) : ∀ x ∈ meetL p q p.length, (Lit.int .i64 x).wf = true := fun x hx => by
  simp only [meetL, List.mem_map, List.mem_range] at hx
  obtain ⟨j, hj, rfl⟩ := hx
  have h1 := part_range h.1 hj
  have h2 := part_range h.2.1 (k := j) (by rw [← h.2.2]; exact hj)
  exact WalkArith.wf_i64 (by omega)

theorem meet_fill {p q : List Int} {n k : Nat} (hk : k < n) :
    (meetL p q k ++ List.replicate (n - k) 0).set k (p.getD k 0 * 256 + q.getD k 0) = meetL p q (k + 1) ++ List.replicate (n - (k + 1)) 0 := by
  have hl : (meetL p q k).length = k := meetL_len _ _ _
  rw [List.set_append, if_neg (by omega), hl, Nat.sub_self, meetL_snoc]
  obtain ⟨m, hm⟩ : ∃ m, n - k = m + 1 := ⟨n - k - 1, by omega⟩
  have hm' : n - (k + 1) = m := by omega
  rw [hm, hm', List.replicate_succ]
  simp

set_option maxHeartbeats 800000 in
set_option maxRecDepth 100000 in
theorem specBoth_any (w : World) (v : Value) (p : List Int) (u : Value) (q : List Int) (b : Bool) (hp : Rd w v p) (hq : Rd w u q) (hb : decide (BothP p q) = b) :
    Calls Try.prog 52 #[v, u] w (RetB w b) := by
  have Rp := hp; have Rq := hq
  obtain ⟨a1, cap1, rfl, l1, _⟩ := hp
  obtain ⟨a2, cap2, rfl, l2, _⟩ := hq
  by_cases h1 : PartP p
  · have e1 : fIsPartition p = true := decide_eq_true h1
    have E1 := Lib.hid e1; clear e1
    by_cases h2 : PartP q
    · have e2 : fIsPartition q = true := decide_eq_true h2
      have E2 := Lib.hid e2; clear e2
      by_cases h3 : p.length = q.length
      · obtain rfl := bT hb ⟨h1, h2, h3⟩
        have e3 : ((p.length : Int) == (q.length : Int)) = true := by simp [h3]
        clear hb h1 h2 h3
        go_enter Try.func52, Try.ntmps52
        go_wp2_with fail
        refine (spec_IsPartition _ _ _ Rp).mono ?_; rw [E1.out]; rintro e w1 ⟨rfl, hb1⟩
        go_wp2_with fail
        refine (spec_IsPartition _ _ _ (rd_below hb1 Rq)).mono ?_; rw [E2.out]; rintro e w2 ⟨rfl, hb2⟩
        go_wp2
        go_ret
        exact ⟨rfl, hb1.trans (hb2.mono hb1.size)⟩
      · obtain rfl := bF hb (fun h => h3 h.2.2)
        have e3 : ((p.length : Int) == (q.length : Int)) = false := by rw [beq_eq_false_iff_ne]; omega
        clear hb h1 h2 h3
        go_enter Try.func52, Try.ntmps52
        go_wp2_with fail
        refine (spec_IsPartition _ _ _ Rp).mono ?_; rw [E1.out]; rintro e w1 ⟨rfl, hb1⟩
        go_wp2_with fail
        refine (spec_IsPartition _ _ _ (rd_below hb1 Rq)).mono ?_; rw [E2.out]; rintro e w2 ⟨rfl, hb2⟩
        go_wp2
        go_ret
        exact ⟨rfl, hb1.trans (hb2.mono hb1.size)⟩
    · have e2 : fIsPartition q = false := decide_eq_false h2
      have E2 := Lib.hid e2; clear e2
      obtain rfl := bF hb (fun h => h2 h.2.1)
      clear hb h1 h2
      go_enter Try.func52, Try.ntmps52
      go_wp2_with fail
      refine (spec_IsPartition _ _ _ Rp).mono ?_; rw [E1.out]; rintro e w1 ⟨rfl, hb1⟩
      go_wp2_with fail
      refine (spec_IsPartition _ _ _ (rd_below hb1 Rq)).mono ?_; rw [E2.out]; rintro e w2 ⟨rfl, hb2⟩
      go_wp2
      go_ret
      exact ⟨rfl, hb1.trans (hb2.mono hb1.size)⟩
  · have e1 : fIsPartition p = false := decide_eq_false h1
    have E1 := Lib.hid e1; clear e1
    obtain rfl := bF hb (fun h => h1 h.1)
    clear hb h1
    go_enter Try.func52, Try.ntmps52
    go_wp2_with fail
    refine (spec_IsPartition _ _ _ Rp).mono ?_; rw [E1.out]; rintro e w1 ⟨rfl, hb1⟩
    go_wp2
    go_ret
    exact ⟨rfl, hb1⟩

set_option maxHeartbeats 800000 in
set_option maxRecDepth 100000 in
theorem implBoth_any (w : World) (v : Value) (p : List Int) (u : Value) (q : List Int) (b : Bool) (hp : Rd w v p) (hq : Rd w u q) (hb : decide (BothP p q) = b) :
    Calls Try.prog 54 #[v, u] w (RetB w b) := by
  have Rp := hp; have Rq := hq
  obtain ⟨a1, cap1, rfl, l1, _⟩ := hp
  obtain ⟨a2, cap2, rfl, l2, _⟩ := hq
  by_cases h1 : PartP p
  · have e1 : fIsPartition p = true := decide_eq_true h1
    have E1 := Lib.hid e1; clear e1
    by_cases h2 : PartP q
    · have e2 : fIsPartition q = true := decide_eq_true h2
      have E2 := Lib.hid e2; clear e2
      by_cases h3 : p.length = q.length
      · obtain rfl := bT hb ⟨h1, h2, h3⟩
        have e3 : ((p.length : Int) == (q.length : Int)) = true := by simp [h3]
        clear hb h1 h2 h3
        go_enter Try.func54, Try.ntmps54
        go_wp2_with fail
        refine (impl_IsPartition _ _ _ Rp).mono ?_; rw [E1.out]; rintro e w1 ⟨rfl, hb1⟩
        go_wp2_with fail
        refine (impl_IsPartition _ _ _ (rd_below hb1 Rq)).mono ?_; rw [E2.out]; rintro e w2 ⟨rfl, hb2⟩
        go_wp2
        go_ret
        exact ⟨rfl, hb1.trans (hb2.mono hb1.size)⟩
      · obtain rfl := bF hb (fun h => h3 h.2.2)
        have e3 : ((p.length : Int) == (q.length : Int)) = false := by rw [beq_eq_false_iff_ne]; omega
        clear hb h1 h2 h3
        go_enter Try.func54, Try.ntmps54
        go_wp2_with fail
        refine (impl_IsPartition _ _ _ Rp).mono ?_; rw [E1.out]; rintro e w1 ⟨rfl, hb1⟩
        go_wp2_with fail
        refine (impl_IsPartition _ _ _ (rd_below hb1 Rq)).mono ?_; rw [E2.out]; rintro e w2 ⟨rfl, hb2⟩
        go_wp2
        go_ret
        exact ⟨rfl, hb1.trans (hb2.mono hb1.size)⟩
    · have e2 : fIsPartition q = false := decide_eq_false h2
      have E2 := Lib.hid e2; clear e2
      obtain rfl := bF hb (fun h => h2 h.2.1)
      clear hb h1 h2
      go_enter Try.func54, Try.ntmps54
      go_wp2_with fail
      refine (impl_IsPartition _ _ _ Rp).mono ?_; rw [E1.out]; rintro e w1 ⟨rfl, hb1⟩
      go_wp2_with fail
      refine (impl_IsPartition _ _ _ (rd_below hb1 Rq)).mono ?_; rw [E2.out]; rintro e w2 ⟨rfl, hb2⟩
      go_wp2
      go_ret
      exact ⟨rfl, hb1.trans (hb2.mono hb1.size)⟩
  · have e1 : fIsPartition p = false := decide_eq_false h1
    have E1 := Lib.hid e1; clear e1
    obtain rfl := bF hb (fun h => h1 h.1)
    clear hb h1
    go_enter Try.func54, Try.ntmps54
    go_wp2_with fail
    refine (impl_IsPartition _ _ _ Rp).mono ?_; rw [E1.out]; rintro e w1 ⟨rfl, hb1⟩
    go_wp2
    go_ret
    exact ⟨rfl, hb1⟩


set_option maxHeartbeats 800000 in
set_option maxRecDepth 100000 in
theorem spec_MeetPartitions (w : World) (v : Value) (p : List Int) (u : Value) (q : List Int) (hp : Rd w v p) (hq : Rd w u q) :
    Calls Try.prog 22 #[v, u] w (RetLI w (fMeetPartitions p q).1 (fMeetPartitions p q).2) := by
  unfold fMeetPartitions
  by_cases hb : BothP p q
  · rw [if_pos hb]
    have Rp := hp; have Rq := hq
    obtain ⟨a1, cap1, rfl, l1, k1⟩ := hp
    obtain ⟨a2, cap2, rfl, l2, k2⟩ := hq
    have hlen := Nat.le_of_eq hb.2.2
    have DB := Lib.hid (decide_eq_true hb)
    have HB := Lib.hid hb; clear hb
    have K1 := Lib.hid k1; have K2 := Lib.hid k2; clear k1 k2
    go_enter Try.func22, Try.ntmps22
    go_wp2_with fail
    refine (specBoth_any _ _ _ _ _ true Rp Rq DB.out).mono ?_; rintro e w1 ⟨rfl, hb1⟩
    go_wp2
    have hbe : Below w.heap.size w (w1.alloc (.cells #[] 2)) := hb1.alloc hb1.size _
    have HE := Lib.hid ((sl_empty w1).mono hb1.size)
    go_loopw [6, 7] (fun x i wr => ∃ k : Nat, k ≤ p.length ∧ i = .int .i64 k ∧ Sl wr w.heap.size x (meetL p q k) ∧ Below w.heap.size w wr) (fun _ i _ => p.length - (intOf i).toNat)
    case atStart => exact ⟨0, Nat.zero_le _, rfl, by simpa [meetL] using HE.out, hbe⟩
    case round =>
      obtain ⟨k, hk, rfl, hs, hbel⟩ := hrel
      by_cases hlt : k < p.length
      · have hlt2 : k < q.length := by omega
        obtain ⟨b1, o1, rfl, hb1, cell1⟩ := K1.out k hlt
        obtain ⟨b2, o2, rfl, hb2, cell2⟩ := K2.out k hlt2
        have c1 : wr.cell? ⟨b1, o1 + k, none⟩ = some (.int .i64 (p.getD k 0)) := (hbel.cell (p := ⟨b1, o1 + k, none⟩) hb1).trans (cell1 k hlt)
        have c2 : wr.cell? ⟨b2, o2 + k, none⟩ = some (.int .i64 (q.getD k 0)) := (hbel.cell (p := ⟨b2, o2 + k, none⟩) hb2).trans (cell2 k hlt2)
        have r1 := part_range HB.out.1 hlt
        have r2 := part_range HB.out.2.1 hlt2
        have hsn := meetL_snoc p q k
        have hln := Nat.le_of_eq (meetL_len p q k)
        clear cell1 cell2
        obtain ⟨x, hx⟩ : ∃ x, x = p.getD k 0 := ⟨_, rfl⟩
        obtain ⟨y, hy⟩ : ∃ y, y = q.getD k 0 := ⟨_, rfl⟩
        rw [← hx] at c1 r1 hsn
        rw [← hy] at c2 r2 hsn
        obtain ⟨r10, r11⟩ := r1
        obtain ⟨r20, r21⟩ := r2
        have HSN := Lib.hid hsn; clear hsn hx hy
        go_wp2
        obtain ⟨i0, hi0, hz0, hz1, hz2⟩ := info_parts info64
        have ag1 : u6.ownBlock ≠ some b1 := fun h => by have := (hs.1.lt _ h).1; omega
        have ag2 : u6.ownBlock ≠ some b2 := fun h => by have := (hs.1.lt _ h).1; omega
        have lg1 := Nat.lt_of_lt_of_le hb1 hbel.size
        have lg2 := Nat.lt_of_lt_of_le hb2 hbel.size
        have hbs := hbel.size
        have hi0' : (0 : Int) ≤ (k : Int) := Int.natCast_nonneg _
        have hi1 : (k : Int) < (p.length : Int) := by omega
        have hi2 : (k : Int) < (q.length : Int) := by omega
        have hn1 : (meetL p q k).length + 1 ≤ maxLen := by unfold maxLen; omega
        have hn2 : ((meetL p q k).length + 1) * 8 ≤ 140737488355328 := by omega
        have hwr1 : IntKind.i64.wrap (x * 256) = x * 256 := IntWalk.i64_in _ (by omega)
        have hwr2 : IntKind.i64.wrap (x * 256 + y) = x * 256 + y := IntWalk.i64_in _ (by omega)
        go_region_held3 (fun w' => w'.cell? ⟨b1, o1 + k, none⟩ = some (.int .i64 x) ∧ w'.cell? ⟨b2, o2 + k, none⟩ = some (.int .i64 y))
          (first
            | go_keep
            | (go_split_ands
               refine ⟨?_, ?_⟩
               · (rw [hgrow.cell_far _ (by simp; omega) (Ne.symm ag1)]; assumption)
               · (rw [hgrow.cell_far _ (by simp; omega) (Ne.symm ag2)]; assumption)))
          ((refine step_append_lies _ (by rfl) _ _ _ (by rfl) w.heap.size 2 i0 _ 1 8 Try.underlying22 hi0 hz0 hz1 hz2 rfl (by omega) u6 (meetL p q k).length _ (by rfl) ((hs.1.alloc _).drew)
              ⟨wr.heap.size, 0, none⟩ 1 1 [.int .i64 (x * 256 + y)] (by rfl) (by rfl) (World.news_of_block (cs := #[.int .i64 (x * 256 + y)]) (t := 2) (fr := (0, 0)) (heap_alloc_new wr _)) (by simp [Value.oneCell'])
              (by omega) hn1 hn2 (by simp; omega) (wr.heap.size + 1) (by simp) ?_; intro gg cap w3 hown1 hgrow hat hlt))
        have hs3 : Sl w3 w.heap.size (.slice (some ⟨gg, 0, none⟩) ((meetL p q k).length + 1) cap) (meetL p q k ++ [x * 256 + y]) := ⟨by simpa using hown1, by simp; omega⟩
        have hg3 : wr.grownBy w3 u6.ownBlock := grown_alloc (o := .cells #[.int .i64 (x * 256 + y)] 2) ⟨hgrow.os, hgrow.tape, hgrow.output, hgrow.size, hgrow.block⟩
        clear hwr1 hwr2 hown1 hgrow hat hlt hi0 hz0 hz1 hz2
        go_wp2
        go_roundw
        case rel => exact ⟨k + 1, by omega, by go_num, by rw [HSN.out]; exact hs3, below_grown hbel hs (Nat.le_refl _) hg3⟩
        case measure => simp [intOf]; omega
      · obtain rfl : k = p.length := by omega
        go_wp2_with fail
        refine (specClasses_any _ _ _ hs.rd).mono ?_; rintro e w2 ⟨y, rfl, hs2, hb2⟩
        go_wp2
        go_ret2
        exact ⟨_, rfl, hs2.mono hbel.size, hbel.trans (hb2.mono hbel.size)⟩
  · rw [if_neg hb]
    have DB := Lib.hid (decide_eq_false hb); clear hb
    go_enter Try.func22, Try.ntmps22
    go_wp2_with fail
    refine (specBoth_any _ _ _ _ _ false hp hq DB.out).mono ?_; rintro e w1 ⟨rfl, hb1⟩
    go_wp2
    go_ret2
    exact ⟨_, rfl, Sl.nil _ _, hb1⟩

end Go.Proofs.Ytgkfampgofjkfaa
