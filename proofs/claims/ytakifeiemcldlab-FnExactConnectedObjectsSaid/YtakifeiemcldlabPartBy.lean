
/- The program's partition by labels: a map from each label to its number. -/
import Derived.Maps.OwnSet
import Derived.Test.YtakifeiemcldlabIdx
namespace Go.Proofs.Ytakifeiemcldlab
open Go.RowKit
open Go.Maps

theorem law64 : Keyed Try.prog 2 := int_keyed Try.underlying2
theorem zero64 (w : World) : (zeroValue 2).run Try.prog w = .ok (.int .i64 0) w := by kernel_rfl

/-- The map holds for each number of s its place in s. -/
def MapIs (D : DataW Unit) (s : List Int) : Prop :=
  Tidy D ∧ Maps.size D = s.length ∧ ∀ x : Int, Maps.has D (.int .i64 x) = decide (x ∈ s) ∧ (x ∈ s → ∀ z, D.atKey (.int .i64 x) z = .lit (.int .i64 (s.idxOf x)))

theorem mapIs_nil : MapIs (.map []) [] := ⟨tidy_empty, rfl, fun x => ⟨by simp [Maps.has], fun h => by simp at h⟩⟩

theorem keyLit (x : Int) : WideAt.IsKeyLit (.int .i64 x) := by simp [WideAt.IsKeyLit]

theorem mapIs_put {D : DataW Unit} {s : List Int} {x : Int} (h : MapIs D s) (hx : x ∉ s) : MapIs (D.put (.int .i64 x) (.lit (.int .i64 s.length))) (s ++ [x]) := by
  obtain ⟨h1, h2, h3⟩ := h
  refine ⟨h1.put (keyLit x) _, ?_, fun y => ?_⟩
  · rw [size_put h1, (h3 x).1]; simp [hx, h2]
  · by_cases hy : y = x
    · subst hy
      refine ⟨by rw [has_put_same h1.isMap (keyLit y)]; simp, fun _ z => ?_⟩
      rw [atKey_put_same h1.isMap (keyLit y)]
      rw [List.idxOf_append, if_neg hx]
      simp
    · have hne : Lit.int IntKind.i64 y ≠ Lit.int IntKind.i64 x := by simpa using hy
      refine ⟨by rw [has_put_other hne, (h3 y).1]; simp [hy], fun hm z => ?_⟩
      have hys : y ∈ s := by simpa [hy] using hm
      rw [atKey_put_other hne, (h3 y).2 hys, List.idxOf_append, if_pos hys]

theorem cls_fill {l : List Int} {k : Nat} (hk : k < l.length) :
    (clsTo l k ++ List.replicate (l.length - k) 0).set k ((seenOf (l.take k)).idxOf (l.getD k 0) : Int) = clsTo l (k + 1) ++ List.replicate (l.length - (k + 1)) 0 := by
  have hl : (clsTo l k).length = k := clsTo_len _ _
  rw [List.set_append, if_neg (by omega), hl, Nat.sub_self, clsTo_snoc]
  obtain ⟨m, hm⟩ : ∃ m, l.length - k = m + 1 := ⟨l.length - k - 1, by omega⟩
  have hm' : l.length - (k + 1) = m := by omega
  rw [hm, hm', List.replicate_succ]
  simp

theorem idx_lt {s : List Int} {x : Int} : s.idxOf x ≤ s.length := List.idxOf_le_length

set_option maxHeartbeats 1000000 in
set_option maxRecDepth 100000 in
theorem partBy_any (w : World) (v : Value) (l : List Int) (h : Rd w v l) (hw : ∀ x ∈ l, (Lit.int .i64 x).wf = true) :
    Calls Try.prog 80 #[v] w (RetL w (clsOf l)) := by
  obtain ⟨a, cap, rfl, hl, hc⟩ := h
  have HC := Lib.hid hc; clear hc
  have HW := Lib.hid hw; clear hw
  have hmm := @run_makeMap Try.prog
  go_enter Try.func80, Try.ntmps80
  go_wp2_with (at_make; refine wp_make64 rfl _ _ _ rfl Try.underlying77 .i64 .i64 _ _ l.length rfl rfl rfl rfl hl ?_; intro w1 hs1 hb1 hz1)
  have hbm : Below w.heap.size w (w.alloc (.map #[] 0)) := (Below.refl _ _).alloc (Nat.le_refl _) _
  have M1 : Hid (w1.ownsMap Try.prog 2 (plainElem (H := Unit) Try.prog 2) w.heap.size 0 (.map [])) := by
    obtain ⟨es, clock, hb, r⟩ := World.ownsMap_made w Try.prog 2 (plainElem (H := Unit) Try.prog 2)
    exact ⟨es, clock, (hb1.block _ (by simp)).trans hb, r⟩
  have S1 := Lib.hid (hs1.mono (base' := w.heap.size) (by simp))
  have hbe := hbm.trans (hb1.mono (by simp))
  clear hs1 hb1 hbm
  simp only [World.size_alloc] at S1
  go_loopw [15] (fun i wr => ∃ k : Nat, k ≤ l.length ∧ i = .int .i64 k ∧ ∃ D, wr.ownsMap Try.prog 2 (plainElem (H := Unit) Try.prog 2) w.heap.size k D ∧ MapIs D (seenOf (l.take k)) ∧ Sl wr w.heap.size (.slice (some ⟨w.heap.size + 1, 0, none⟩) l.length l.length) (clsTo l k ++ List.replicate (l.length - k) 0) ∧ Below w.heap.size w wr) (fun i _ => l.length - (intOf i).toNat)
  case atStart => exact ⟨0, Nat.zero_le _, rfl, _, M1.out, by simpa [seenOf] using mapIs_nil, by simpa [clsTo] using S1.out, hbe⟩
  case round =>
    obtain ⟨k, hk, rfl, D, hown, hD, hs, hbel⟩ := hrel
    by_cases hlt : k < l.length
    · obtain ⟨bb, off, rfl, hbs, hcell⟩ := HC.out k hlt
      have c1 : wr.cell? ⟨bb, off + k, none⟩ = some (.int .i64 (l.getD k 0)) := (hbel.cell (p := ⟨bb, off + k, none⟩) hbs).trans (hcell k hlt)
      have hkey : keyOf Try.prog 2 (.int .i64 (l.getD k 0)) = some (.int .i64 (l.getD k 0)) := keyOf_int_mk Try.underlying2 (HW.out _ (mem_getD hlt))
      have hsn := seenOf_snoc (l.take k) (l.getD k 0)
      rw [← take_snoc hlt] at hsn
      have hfill := cls_fill hlt
      have hln := seenOf_len (l.take k)
      have hln2 : (seenOf (l.take k)).length ≤ k := by simp at hln; omega
      have hil := idx_lt (s := seenOf (l.take k)) (x := l.getD k 0)
      clear hln hcell
      obtain ⟨x, hx⟩ : ∃ x, x = l.getD k 0 := ⟨_, rfl⟩
      rw [← hx] at c1 hkey hsn hfill hil
      obtain ⟨s, hsd⟩ : ∃ s, s = seenOf (l.take k) := ⟨_, rfl⟩
      rw [← hsd] at hsn hfill hln2 hD hil
      have HK := Lib.hid hkey; clear hkey
      clear hsd hx
      by_cases hm : x ∈ s
      · rw [if_pos hm] at hsn
        have hhas : Maps.has D (.int .i64 x) = true := by rw [(hD.2.2 x).1]; simpa using hm
        have hat := Lib.hid ((hD.2.2 x).2 hm)
        obtain ⟨q, hq⟩ : ∃ q : Nat, s.idxOf x = q := ⟨_, rfl⟩
        rw [hq] at hat hfill hil
        have HF := Lib.hid hfill; have HSN := Lib.hid hsn; have HD := Lib.hid hD; clear hfill hsn hm hq hD
        have hset := sl_set hs k (q : Int)
        have c3 := sl_cell hs (j := k) (by simp [clsTo_len]; omega)
        have c4 := sl_frozen hs k
        rw [HF.out] at hset
        have HSET := Lib.hid hset; clear hset
        generalize (clsTo l k ++ List.replicate (l.length - k) 0).getD k 0 = z at c3
        clear hs
        go_wp2_with (at_lookup; (refine wpList_lookup_own_ok_int _ rfl _ _ 122 rfl 2 2 .i64 law64 Try.underlying122 Try.underlying2 (zero64 _) w.heap.size k _ rfl hown _ _ rfl HK.out ?_; intro c hc hwc; rw [hat.out] at hc; (obtain rfl : (q : Int) = c := by simpa using hc); clear hc hwc))
        go_roundw
        case rel => exact ⟨k + 1, by omega, by go_num, D, (hown.kept HSET.out.2 (by simp)).mono (by omega), by rw [HSN.out]; exact HD.out, HSET.out.1, hbel.setCell (by simp) _⟩
        case measure => simp [intOf]; omega
      · rw [if_neg hm] at hsn
        have hhas : Maps.has D (.int .i64 x) = false := by rw [(hD.2.2 x).1]; simpa using hm
        have hat := Lib.hid (atKey_of_not_has hhas (.lit (.int .i64 0)))
        have hsz : Maps.size D = s.length := hD.2.1
        have hq : s.idxOf x = s.length := List.idxOf_eq_length hm
        rw [hq] at hfill
        have hwf : (Lit.int IntKind.i64 (s.length : Int)).wf = true := WalkArith.wf_i64 (by omega)
        have HWF := Lib.hid hwf; clear hwf
        have HF := Lib.hid hfill; have HSN := Lib.hid hsn; have HD := Lib.hid (mapIs_put hD hm); clear hfill hsn hm hq hD
        go_wp2_with (first
          | (at_lookup; (refine wpList_lookup_own_ok_int _ rfl _ _ 122 rfl 2 2 .i64 law64 Try.underlying122 Try.underlying2 (zero64 _) w.heap.size k _ rfl hown _ _ rfl HK.out ?_; intro c hc hwc; rw [hat.out] at hc; (obtain rfl : (0 : Int) = c := by simpa using hc); clear hc hwc))
          | (at_len; refine wpList_len_own _ rfl _ _ rfl 2 2 Try.underlying122 _ w.heap.size k _ rfl hown ?_)
          | (at_mapUpdate; (refine wpList_mapUpdate_own _ rfl _ _ _ 122 rfl 2 2 law64 Try.underlying122 _ w.heap.size k _ rfl hown (by unfold maxLen; omega) _ _ _ rfl rfl HK.out _ [] (plainElem_int Try.underlying2 HWF.out) ?_; intro w2 hown2 hgrow2; have hs2 := sl_kept hs hgrow2 (by simp [Value.ownBlock]); have hset := sl_set hs2 k (s.length : Int); have c3 := sl_cell hs2 (j := k) (by simp [clsTo_len]; omega); have c4 := sl_frozen hs2 k; rw [HF.out] at hset; have HSET := Lib.hid hset; clear hset; generalize (clsTo l k ++ List.replicate (l.length - k) 0).getD k 0 = z at c3; clear hs2)))
        go_roundw
        case rel => exact ⟨k + 1, by omega, by go_num, _, (hown2.kept HSET.out.2 (by simp)), by rw [HSN.out]; exact HD.out, HSET.out.1, (hbel.grown hgrow2 hbel.size (by simp)).setCell (by simp) _⟩
        case measure => simp [intOf]; omega
    · obtain rfl : k = l.length := by omega
      have HS2 := Lib.hid hs; clear hs
      go_wp2
      go_ret
      exact ⟨_, rfl, by simpa [clsOf] using HS2.out, hbel⟩

end Go.Proofs.Ytakifeiemcldlab
