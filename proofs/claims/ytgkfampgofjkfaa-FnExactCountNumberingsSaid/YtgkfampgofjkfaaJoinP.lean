
/- JoinPartitions: the program and its model. -/
import Derived.Maps.AppendAt
import Derived.Test.YtgkfampgofjkfaaCoeq
import Derived.Test.YtgkfampgofjkfaaMeet
set_option linter.unusedSimpArgs false
set_option linter.unusedVariables false
set_option linter.unusedSectionVars false
namespace Go.Proofs.Ytgkfampgofjkfaa
open Go.RowKit

/-- 'append(s, []int64{x, y})', s a list of lists of the call's own. -/
theorem wp_app2 {wr : World} {ops : Array Oper} {rest : List Oper} {o : Oper} {a : Act} {Q : Exit → Act → World → Prop}
    (hg : o.guard = none) (s xo : Operand) (t : TypeId) (ho : o.op = .call { callee := .builtin .append, args := #[s, xo], argTypes := #[t, t] }) (ht : Try.prog.underlying t = some (.slice 22))
    {base : Nat} {v : Value} {rows : List (List Int)} (x y : Int) (hs : Sl2 wr base v rows) (hv : a.eval s = v) (hx : a.eval xo = .slice (some ⟨wr.heap.size + 1, 0, none⟩) 1 1)
    (hn : rows.length + 1 ≤ 5000000000000) (hbase : base ≤ wr.heap.size)
    (hK : ∀ g' cap' w', Sl2 w' base (.slice (some ⟨g', 0, none⟩) (rows.length + 1) cap') (rows ++ [[x, y]]) → wr.grownBy w' v.ownBlock → (∀ k, v.ownBlock = some k → base ≤ k) → wpList Try.prog ops Q rest (a.put o.dst (.slice (some ⟨g', 0, none⟩) (rows.length + 1) cap')) w') :
    wpList Try.prog ops Q (o :: rest) a ((wr.alloc (.cells #[.int .i64 x, .int .i64 y] 2)).alloc (.cells #[.slice (some ⟨wr.heap.size, 0, none⟩) 2 2] 22)) := by
  obtain ⟨i, hi, hz, hs1, hb⟩ := info_parts infoS
  obtain ⟨us, hul, hl2, hown, hrows, hpair⟩ := hs
  refine wpList_append_own_at (P := Try.prog) _ hg s xo t ho base 22 i (.slice none 0 0) 1 24 ht hi hz hs1 hb rfl (by decide) v rows.length us hv ((hown.alloc _).alloc _) ⟨wr.heap.size + 1, 0, none⟩ 1 1 [.slice (some ⟨wr.heap.size, 0, none⟩) 2 2] hx rfl (news2 wr _ _ _) (by simp [Value.oneCell']) (by unfold maxLen; omega) (by omega) (by simp; omega) ?_
  intro v' w' hown' hgrow _ hat
  rcases hown'.2 with ⟨_, h0⟩ | ⟨g', cap', cur, rfl, _⟩
  · omega
  · refine hK g' cap' w' ?_ (grown_alloc (grown_alloc hgrow)) fun k hk => (hown.lt k hk).1
    exact sl2_snoc hul hown hrows hpair (((Below.refl _ _).alloc (Nat.le_refl _) _).alloc (by simp) _) (sl_alloc (sl_lit2 wr x y) _) hbase hn hown' hgrow (by
      rcases hat with h | h
      · exact .inl (by rw [← h]; rfl)
      · right; simp [Value.ownBlock] at h ⊢; omega)

def plist (p : List Int) (k : Nat) : List (List Int) := (List.range k).map fun (j : Nat) => [(p.idxOf (p.getD j 0) : Int), (j : Int)]
theorem plist_len (p : List Int) (k : Nat) : (plist p k).length = k := by simp [plist]
theorem plist_snoc (p : List Int) (k : Nat) : plist p (k + 1) = plist p k ++ [[(p.idxOf (p.getD k 0) : Int), (k : Int)]] := by simp [plist, List.range_succ]

set_option maxHeartbeats 800000 in
set_option maxRecDepth 100000 in
theorem specPairs_any (w : World) (v : Value) (p : List Int) (h : Rd w v p) (hp : p.length ≤ 256) :
    Calls Try.prog 61 #[v] w (fun e w' => ∃ g cap, e = .returned (.slice (some ⟨g, 0, none⟩) p.length cap) ∧ Sl2 w' w.heap.size (.slice (some ⟨g, 0, none⟩) p.length cap) (plist p p.length) ∧ Below w.heap.size w w') := by
  have R := h
  obtain ⟨a, cap, rfl, hl, hc⟩ := h
  have HC := Lib.hid hc; clear hc
  go_enter Try.func61, Try.ntmps61
  go_wp2
  have hbe : Below w.heap.size w (w.alloc (.cells #[] 22)) := (Below.refl _ _).alloc (Nat.le_refl _) _
  have HE := Lib.hid (sl2_empty w)
  go_loopw [3, 4] (fun x i wr => ∃ k : Nat, k ≤ p.length ∧ i = .int .i64 k ∧ ∃ g cp, x = .slice (some ⟨g, 0, none⟩) k cp ∧ Sl2 wr w.heap.size x (plist p k) ∧ Below w.heap.size w wr) (fun _ i _ => p.length - (intOf i).toNat)
  case atStart => exact ⟨0, Nat.zero_le _, rfl, _, _, rfl, by simpa [plist] using HE.out, hbe⟩
  case round =>
    obtain ⟨k, hk, rfl, g, cp, rfl, hs, hbel⟩ := hrel
    by_cases hlt : k < p.length
    · obtain ⟨bb, off, rfl, hbs, hcell⟩ := HC.out k hlt
      have c1 : wr.cell? ⟨bb, off + k, none⟩ = some (.int .i64 (p.getD k 0)) := (hbel.cell (p := ⟨bb, off + k, none⟩) hbs).trans (hcell k hlt)
      have hsn := plist_snoc p k
      have hmem := mem_getD hlt
      have hln := Nat.le_of_eq (plist_len p k)
      have hlk : (plist p k).length = k := plist_len p k
      clear hcell
      obtain ⟨x, hx⟩ : ∃ x, x = p.getD k 0 := ⟨_, rfl⟩
      rw [← hx] at c1 hsn hmem
      have hix : idxI p x = (p.idxOf x : Int) := by rw [idxI, if_pos hmem]
      obtain ⟨q, hq⟩ : ∃ q : Nat, q = p.idxOf x := ⟨_, rfl⟩
      rw [← hq] at hix hsn
      have HIX := Lib.hid hix; have HSN := Lib.hid hsn; have HLK := Lib.hid hlk; clear hix hsn hx hq hmem hlk
      go_wp2_with fail
      refine (specIndex_any _ _ p x (rd_below hbel R)).mono ?_; rintro e w1 ⟨rfl, hb1⟩
      rw [HIX.out]
      have hs1 := sl2_below hb1 hs
      have hbel1 := hbel.trans (hb1.mono hbel.size)
      clear hs hbel
      go_wp2_with (at_builtin; refine wp_app2 rfl _ _ _ rfl Try.underlying23 (q : Int) (k : Int) hs1 rfl rfl (by omega) hbel1.size ?_; intro g2 cap2 w2 hs2 hg2 hge)
      go_roundw
      case rel => exact ⟨k + 1, by omega, by go_num, g2, cap2, by rw [HLK.out], by rw [HSN.out]; exact hs2, hbel1.grown hg2 hbel1.size hge⟩
      case measure => simp [intOf]; omega
    · obtain rfl : k = p.length := by omega
      go_wp2
      go_ret
      exact ⟨g, cp, rfl, hs, hbel⟩

/-- 'append(s, u...)' of two lists of lists: what comes of it reads as both. -/
theorem wp_appAll {wr : World} {ops : Array Oper} {rest : List Oper} {o : Oper} {a : Act} {Q : Exit → Act → World → Prop}
    (hg : o.guard = none) (s xo : Operand) (t : TypeId) (ho : o.op = .call { callee := .builtin .append, args := #[s, xo], argTypes := #[t, t] }) (ht : Try.prog.underlying t = some (.slice 22))
    {base B2 g2 m c2 : Nat} {v : Value} {rows rows2 : List (List Int)} (hs : Sl2 wr base v rows) (hs2 : Sl2 wr B2 (.slice (some ⟨g2, 0, none⟩) m c2) rows2) (hv : a.eval s = v) (hx : a.eval xo = .slice (some ⟨g2, 0, none⟩) m c2)
    (hB : ∀ k, v.ownBlock = some k → k < B2) (hn : rows.length + rows2.length ≤ 5000000000000) (hbase : base ≤ wr.heap.size)
    (hK : ∀ v' w', Rd2 w' v' (rows ++ rows2) → wr.grownBy w' v.ownBlock → (∀ k, v.ownBlock = some k → base ≤ k) → wpList Try.prog ops Q rest (a.put o.dst v') w') :
    wpList Try.prog ops Q (o :: rest) a wr := by
  obtain ⟨i, hi, hz, hs1, hb⟩ := info_parts infoS
  obtain ⟨us, hul, hl2, hown, hrows, hpair⟩ := hs
  obtain ⟨us2, hul2, hl22, hown2, hrows2, hpair2⟩ := hs2
  have hm : m = rows2.length := by
    rcases hown2.2 with ⟨hv, _⟩ | ⟨g', cap', cur, hv, _⟩
    · simp at hv
    · simp only [Value.slice.injEq] at hv
      exact hv.2.1
  subst hm
  have hone : ∀ z ∈ us2, z.oneCell' = true := fun z hz => by
    obtain ⟨j, hj, rfl⟩ := List.getElem_of_mem hz
    have := (hrows2 j (by omega)).1
    rw [List.getD_eq_getElem?_getD, List.getElem?_eq_getElem hj] at this
    obtain ⟨a', c', e, _⟩ := sl_form this
    simp only [Option.getD_some] at e
    rw [e]; rfl
  refine wpList_append_own_at (P := Try.prog) wr hg s xo t ho base 22 i (.slice none 0 0) 1 24 ht hi hz hs1 hb rfl (by decide) v rows.length us hv hown ⟨g2, 0, none⟩ rows2.length c2 us2 hx (by omega) (fun j u hj => ?_) hone (by unfold maxLen; omega) (by omega) hbase ?_
  · have hj2 : j < us2.length := by
      rcases Nat.lt_or_ge j us2.length with h | h
      · exact h
      · rw [List.getElem?_eq_none h] at hj; cases hj
    rw [Addr.add_lit, Nat.zero_add, hown2.cellAt j (by omega)]
    exact hj
  · intro v' w' hown' hgrow _ _
    refine hK v' w' ?_ hgrow fun k hk => (hown.lt k hk).1
    have hall : ∀ i, i < rows.length + rows2.length → Rd w' ((us ++ us2).getD i undef) ((rows ++ rows2).getD i []) := fun i hi => by
      rcases Nat.lt_or_ge i rows.length with h | h
      · have e1 : (us ++ us2).getD i undef = us.getD i undef := by rw [List.getD_eq_getElem?_getD, List.getD_eq_getElem?_getD, List.getElem?_append_left (by omega)]
        have e2 : (rows ++ rows2).getD i [] = rows.getD i [] := by rw [List.getD_eq_getElem?_getD, List.getD_eq_getElem?_getD, List.getElem?_append_left h]
        rw [e1, e2]
        exact (sl_kept (hrows i h).1 hgrow (apart_ne (hrows i h).2)).rd
      · have e1 : (us ++ us2).getD i undef = us2.getD (i - rows.length) undef := by rw [List.getD_eq_getElem?_getD, List.getD_eq_getElem?_getD, List.getElem?_append_right (by omega), hul]
        have e2 : (rows ++ rows2).getD i [] = rows2.getD (i - rows.length) [] := by rw [List.getD_eq_getElem?_getD, List.getD_eq_getElem?_getD, List.getElem?_append_right (by omega)]
        rw [e1, e2]
        have h3 := (hrows2 (i - rows.length) (by omega)).1
        refine (sl_kept h3 hgrow (apart_ne fun q hq hvq => ?_)).rd
        have := (h3.1.lt q hq).1
        have := hB q hvq
        omega
    rcases hown'.2 with ⟨hv0, hn0⟩ | ⟨g, cap, cur, hv0, hbb, hgg, hnc, hcm, hcs, ht0⟩
    · exact ⟨none, 0, by rw [hv0]; simp; omega, by simpa using hn, fun j hj => by simp at hj; omega⟩
    · refine ⟨some ⟨g, 0, none⟩, cap, by rw [hv0]; simp, by simpa using hn, fun j hj => ⟨g, 0, rfl, (Array.getElem?_eq_some_iff.1 hgg).1, fun i hi => ⟨(us ++ us2).getD i undef, ?_, hall i (by simpa using hi)⟩⟩⟩
      have hi' : i < (us ++ us2).length := by simp at hi ⊢; omega
      have h1 : (us ++ us2)[i]? = some ((us ++ us2).getD i undef) := by
        rw [List.getD_eq_getElem?_getD, List.getElem?_eq_getElem hi']; rfl
      rw [← ht0] at h1
      rw [cell_of_row w' g (0 + i) cur _ (0, 0) hgg, Nat.zero_add]
      rw [List.getElem?_take] at h1
      split at h1
      · rw [← ht0]; simpa using h1
      · cases h1

theorem idx_le_getD {p : List Int} {k : Nat} (hk : k < p.length) : p.idxOf (p.getD k 0) < p.length := List.idxOf_lt_length_of_mem (mem_getD hk)

theorem plist_pairs (p : List Int) : ∀ r ∈ plist p p.length, PairP p.length r := fun r hr => by
  simp only [plist, List.mem_map, List.mem_range] at hr
  obtain ⟨j, hj, rfl⟩ := hr
  have := idx_le_getD hj
  refine ⟨rfl, fun x hx => ?_⟩
  simp only [List.mem_cons, List.not_mem_nil, or_false] at hx
  rcases hx with rfl | rfl <;> omega

def fJoinPartitions (p q : List Int) : List Int × Int :=
  if BothP p q then (clsOf (implL p.length (plist p p.length ++ plist q q.length)), 0) else ([], 1)

set_option maxHeartbeats 800000 in
set_option maxRecDepth 100000 in
theorem spec_JoinPartitions (w : World) (v : Value) (p : List Int) (u : Value) (q : List Int) (hp : Rd w v p) (hq : Rd w u q) :
    Calls Try.prog 28 #[v, u] w (RetLI w (fJoinPartitions p q).1 (fJoinPartitions p q).2) := by
  unfold fJoinPartitions
  by_cases hb : BothP p q
  · rw [if_pos hb]
    have hpairs : ∀ r ∈ plist p p.length ++ plist q q.length, PairP p.length r := fun r hr => by
      rcases List.mem_append.1 hr with h | h
      · exact plist_pairs p r h
      · have := plist_pairs q r h
        rw [hb.2.2]; exact this
    rw [← join_cls hpairs]
    have hp2 := hb.1.1
    have hq2 := hb.2.1.1
    have hlp := Nat.le_of_eq (plist_len p p.length)
    have hlq := Nat.le_of_eq (plist_len q q.length)
    have HPP := Lib.hid hpairs; have DB := Lib.hid (decide_eq_true hb); clear hpairs hb
    have Rp := hp; have Rq := hq
    obtain ⟨a1, cap1, rfl, l1, _⟩ := hp
    go_enter Try.func28, Try.ntmps28
    go_wp2_with fail
    refine (specBoth_any _ _ _ _ _ true Rp Rq DB.out).mono ?_; rintro e w1 ⟨rfl, hb1⟩
    go_wp2_with fail
    refine (specPairs_any _ _ _ (rd_below hb1 Rp) hp2).mono ?_; rintro e w2 ⟨g1, c1, rfl, hs1, hb2⟩
    have hb12 := hb1.trans (hb2.mono hb1.size)
    have hlt1 : g1 < w2.heap.size := by
      obtain ⟨us, _, _, h3, _⟩ := hs1
      exact (h3.lt g1 rfl).2
    go_wp2_with fail
    refine (specPairs_any _ _ _ (rd_below hb12 Rq) hq2).mono ?_; rintro e w3 ⟨g2, c2, rfl, hs2, hb3⟩
    have hb13 := hb12.trans (hb3.mono hb12.size)
    have hs1' := sl2_mono (sl2_below hb3 hs1) hb1.size
    clear hs1
    go_wp2_with (at_builtin; refine wp_appAll rfl _ _ _ rfl Try.underlying23 hs1' hs2 rfl rfl (fun k hk => by simp only [Value.ownBlock, Option.some.injEq] at hk; omega) (by omega) hb13.size ?_; intro v4 w4 hr4 hg4 hge4)
    refine (specJoin_any _ p.length _ _ (by omega) hr4 HPP.out).mono ?_; rintro e w5 ⟨y, rfl, hs5, hb5⟩
    have hb4 := hb13.grown hg4 hb13.size hge4
    go_wp2
    go_ret2
    exact ⟨_, rfl, hs5.mono hb4.size, hb4.trans (hb5.mono hb4.size)⟩
  · rw [if_neg hb]
    have DB := Lib.hid (decide_eq_false hb); clear hb
    go_enter Try.func28, Try.ntmps28
    go_wp2_with fail
    refine (specBoth_any _ _ _ _ _ false hp hq DB.out).mono ?_; rintro e w1 ⟨rfl, hb1⟩
    go_wp2
    go_ret2
    exact ⟨_, rfl, Sl.nil _ _, hb1⟩

theorem mem_seenOf (l : List Int) (x : Int) : x ∈ seenOf l ↔ x ∈ l := by
  have h : ∀ (l s : List Int), x ∈ l.foldl (fun s x => if x ∈ s then s else s ++ [x]) s ↔ x ∈ s ∨ x ∈ l := by
    intro l
    induction l with
    | nil => intro s; simp
    | cons a l ih =>
      intro s
      rw [List.foldl_cons, ih, List.mem_cons]
      by_cases ha : a ∈ s
      · rw [if_pos ha]
        constructor
        · rintro (h | h)
          · exact .inl h
          · exact .inr (.inr h)
        · rintro (h | h | h)
          · exact .inl h
          · subst h; exact .inl ha
          · exact .inr h
      · rw [if_neg ha, List.mem_append, List.mem_singleton]
        constructor
        · rintro ((h | h) | h)
          · exact .inl h
          · exact .inr (.inl h)
          · exact .inr (.inr h)
        · rintro (h | h | h)
          · exact .inl (.inl h)
          · exact .inl (.inr h)
          · exact .inr h
  have := h l []
  simpa [seenOf] using this

/-- The least elements of the classes, by the first m numbers. -/
def lstL (p : List Int) (m : Nat) : List Int := (upTo 0 m).map fun c => (p.idxOf c : Int)
theorem lstL_len (p : List Int) (m : Nat) : (lstL p m).length = m := by simp [lstL, upTo_length]
theorem lstL_snoc (p : List Int) (m : Nat) : lstL p (m + 1) = lstL p m ++ [(p.idxOf (m : Int) : Int)] := by simp [lstL, upTo_succ]
theorem lstL_getD {p : List Int} {m c : Nat} (h : c < m) : (lstL p m).getD c 0 = (p.idxOf (c : Int) : Int) := by
  unfold lstL
  rw [getD_map (by rw [upTo_length]; exact h), upTo_getD 0 m c h]
  simp

/-- In a proper partition each number is one that stood before or the next one. -/
theorem proper_step {p : List Int} (hp : p = clsOf p) {k m : Nat} (hk : k < p.length) (hs : seenOf (p.take k) = upTo 0 m) :
    0 ≤ p.getD k 0 ∧ p.getD k 0 ≤ m ∧ (p.getD k 0 = m → p.idxOf (m : Int) = k) := by
  have h := clsOf_getD hk
  rw [← hp, hs] at h
  have hle := idx_lt (s := upTo 0 m) (x := p.getD k 0)
  rw [upTo_length] at hle
  refine ⟨by omega, by omega, fun he => ?_⟩
  refine idx_hit hk he fun j hj hjm => ?_
  have hin : (m : Int) ∈ p.take k := by
    rw [← hjm, List.getD_eq_getElem?_getD]
    have : p[j]? = some (p[j]'(by omega)) := List.getElem?_eq_getElem (by omega)
    rw [this]
    exact List.mem_take_iff_getElem.2 ⟨j, by omega, rfl⟩
  rw [← mem_seenOf, hs] at hin
  exact not_mem_upTo (.inr (Int.le_refl _)) hin

set_option maxHeartbeats 800000 in
set_option maxRecDepth 100000 in
theorem leasts_any (w : World) (v : Value) (p : List Int) (h : Rd w v p) (hp : PartP p) :
    Calls Try.prog 74 #[v] w (fun e w' => ∃ (y : Value) (m : Nat), e = .returned y ∧ Sl w' w.heap.size y (lstL p m) ∧ (∀ c ∈ p, 0 ≤ c ∧ c < m) ∧ Below w.heap.size w w') := by
  obtain ⟨a, cap, rfl, hl, hc⟩ := h
  have HC := Lib.hid hc; clear hc
  have hp1 := hp.1
  have HP := Lib.hid hp.2; clear hp
  go_enter Try.func74, Try.ntmps74
  go_wp2
  go_loopw [3, 8] (fun x i wr => ∃ k m : Nat, k ≤ p.length ∧ i = .int .i64 k ∧ m ≤ k ∧ Hid (seenOf (p.take k) = upTo 0 m) ∧ Sl wr w.heap.size x (lstL p m) ∧ Below w.heap.size w wr) (fun _ i _ => p.length - (intOf i).toNat)
  case atStart => exact ⟨0, 0, Nat.zero_le _, rfl, Nat.le_refl _, by simp [Hid, seenOf, upTo], by simpa [lstL, upTo] using Sl.nil _ _, Below.refl _ _⟩
  case round =>
    obtain ⟨k, m, hk, rfl, hmk, hseen, hs, hbel⟩ := hrel
    by_cases hlt : k < p.length
    · obtain ⟨bb, off, rfl, hbs, hcell⟩ := HC.out k hlt
      have c1 : wr.cell? ⟨bb, off + k, none⟩ = some (.int .i64 (p.getD k 0)) := (hbel.cell (p := ⟨bb, off + k, none⟩) hbs).trans (hcell k hlt)
      have hst := proper_step HP.out hlt hseen.out
      have hsn := seenOf_snoc (p.take k) (p.getD k 0)
      rw [← take_snoc hlt, hseen.out] at hsn
      have hln := Nat.le_of_eq (lstL_len p m)
      obtain ⟨ya, yc, rfl, _⟩ := sl_form hs
      have hlm : (lstL p m).length = m := lstL_len p m
      rw [hlm] at hs ⊢
      clear hcell hlm
      obtain ⟨x, hx⟩ : ∃ x, x = p.getD k 0 := ⟨_, rfl⟩
      rw [← hx] at c1 hst hsn
      obtain ⟨h0, h1, h2⟩ := hst
      clear hx
      by_cases hxm : x = m
      · have hi := h2 hxm
        rw [if_neg (by rw [hxm]; exact not_mem_upTo (.inr (Int.le_refl _))), hxm, ← upTo_succ] at hsn
        have hls := lstL_snoc p m
        rw [hi] at hls
        subst hxm
        have ht : ((m : Int) == (m : Int)) = true := by simp
        have HSN := Lib.hid hsn; have HLS := Lib.hid hls; clear hsn hls h2 hi
        go_wp2_with (at_builtin; refine wp_app64 rfl _ _ _ rfl Try.underlying22 (k : Int) hs rfl rfl (by omega) hbel.size ?_; intro v1 w2 hs1 hg1)
        go_roundw
        case rel => exact ⟨k + 1, m + 1, by omega, by go_num, by omega, HSN, by rw [HLS.out]; exact hs1, below_grown hbel hs (Nat.le_refl _) hg1⟩
        case measure => simp [intOf]; omega
      · have hlt2 : x < (m : Int) := by omega
        rw [if_pos (mem_upTo h0 hlt2)] at hsn
        have ht : (x == (m : Int)) = false := by simpa using hxm
        have HSN := Lib.hid hsn; have HSS := Lib.hid hs; clear hsn h2 hxm hs
        go_wp2
        go_roundw
        case rel => exact ⟨k + 1, m, by omega, by go_num, by omega, HSN, HSS.out, hbel⟩
        case measure => simp [intOf]; omega
    · obtain rfl : k = p.length := by omega
      have hfin : ∀ c ∈ p, 0 ≤ c ∧ c < (m : Int) := fun c hc => by
        have := (mem_seenOf p c).2 hc
        have hs2 := hseen.out
        rw [List.take_length] at hs2
        rw [hs2] at this
        simp only [upTo, List.mem_map, List.mem_range] at this
        obtain ⟨j, hj, rfl⟩ := this
        omega
      have HFIN := Lib.hid hfin; clear hfin
      go_wp2
      go_ret
      exact ⟨_, m, rfl, hs, HFIN.out, hbel⟩

theorem implStep_swap (R : List Int) (x y : Int) : implStep R [x, y] = implStep R [y, x] := by
  unfold implStep mergeR
  simp only [List.getD_cons_zero, List.getD_cons_succ]
  rw [Int.max_comm, Int.min_comm]

theorem implStep_two (R : List Int) (x y : Nat) : implStep R [(x : Int), (y : Int)] = mergeR R (R.getD x 0) (R.getD y 0) := by
  unfold implStep
  simp only [List.getD_cons_zero, List.getD_cons_succ, Int.toNat_natCast]

theorem implFold_len (ps : List (List Int)) : ∀ R : List Int, (ps.foldl implStep R).length = R.length := by
  induction ps with
  | nil => intro R; rfl
  | cons r ps ih => intro R; rw [List.foldl_cons, ih]; simp [implStep, mergeR]

theorem joinC_snoc (R p : List Int) (k : Nat) : (plist p (k + 1)).foldl implStep R = implStep ((plist p k).foldl implStep R) [(p.idxOf (p.getD k 0) : Int), (k : Int)] := by
  rw [plist_snoc, List.foldl_append]; rfl

theorem lead_kept {w w' : World} {base : Nat} {v : Value} {R : List Int} {row : Option Nat} (h : Lead w base v R) (hg : w.grownBy w' row) (hne : v.ownBlock = none ∨ v.ownBlock ≠ row) : Lead w' base v R := by
  obtain ⟨l, hs, r⟩ := h
  exact ⟨l, sl_kept hs hg hne, r⟩

set_option maxHeartbeats 1600000 in
set_option maxRecDepth 100000 in
theorem joinClasses_any (W w : World) (base : Nat) (v u : Value) (R p : List Int) (h : Lead w base v R) (hW : Below W.heap.size W w) (hbase : W.heap.size ≤ base) (hp : Rd W u p) (hpp : PartP p) (hl : p.length = R.length) :
    Calls Try.prog 58 #[v, u] w (fun e w' => e = .returned (.tuple #[]) ∧ Lead w' base v ((plist p p.length).foldl implStep R) ∧ Below W.heap.size W w') := by
  have Rp := hp
  obtain ⟨a, cap, rfl, hlp, hc⟩ := hp
  have HC := Lib.hid hc; clear hc
  have HPP := Lib.hid hpp; clear hpp
  have hle := Nat.le_of_eq hl
  have hl3 : p.length ≤ 256 := HPP.out.1
  have HL := Lib.hid hl; clear hl
  go_enter Try.func58, Try.ntmps58
  go_wp2_with fail
  refine (leasts_any _ _ p (rd_below hW Rp) HPP.out).mono ?_; rintro e w1 ⟨y, m, rfl, hs1, hcm, hb1⟩
  have HCM := Lib.hid hcm; clear hcm
  have L1 := Lib.hid (lead_below hb1 h)
  have hap : Hid (Apart v y) := fun g hg hy => by
    have h1 := (lead_lt h g hg).2
    have h2 := (hs1.1.lt g hy).1
    omega
  have hbW := hW.trans (hb1.mono hW.size)
  obtain ⟨ya, yc, rfl, hyf⟩ := sl_form hs1
  have hlm : (lstL p m).length = m := lstL_len p m
  rw [hlm] at hs1 hap hyf ⊢
  have HYF := Lib.hid hyf
  have hys : Hid (Sl w1 W.heap.size (.slice ya m yc) (lstL p m)) := hs1.mono hW.size
  clear hs1 h hlm hyf
  go_wp2
  go_loopw [11] (fun i wr => ∃ k : Nat, k ≤ p.length ∧ i = .int .i64 k ∧ Lead wr base v ((plist p k).foldl implStep R) ∧ Sl wr W.heap.size (.slice ya m yc) (lstL p m) ∧ Below W.heap.size W wr) (fun i _ => p.length - (intOf i).toNat)
  case atStart => exact ⟨0, Nat.zero_le _, rfl, by simpa [plist] using L1.out, hys.out, hbW⟩
  case round =>
    obtain ⟨k, hk, rfl, hlead, hy, hbel⟩ := hrel
    by_cases hlt : k < p.length
    · obtain ⟨bb, off, rfl, hbs, hcell⟩ := HC.out k hlt
      have c1 : wr.cell? ⟨bb, off + k, none⟩ = some (.int .i64 (p.getD k 0)) := (hbel.cell (p := ⟨bb, off + k, none⟩) hbs).trans (hcell k hlt)
      obtain ⟨hc0, hc1⟩ := HCM.out _ (mem_getD hlt)
      obtain ⟨c, hcd⟩ := Int.eq_ofNat_of_zero_le hc0
      have hcm : c < m := by omega
      obtain ⟨gy, rfl⟩ := HYF.out c hcm
      have c2 := sl_cell hy (j := c) (by rw [lstL_len]; exact hcm)
      rw [lstL_getD hcm] at c2
      have hstep := joinC_snoc R p k
      have hidx := idx_le_getD hlt
      rw [← implStep_swap] at hstep
      rw [hcd] at c1 hstep hidx
      rw [implStep_two] at hstep
      have hRl : ((plist p k).foldl implStep R).length = p.length := by rw [implFold_len, HL.out]
      obtain ⟨Rk, hRk⟩ : ∃ Rk, Rk = (plist p k).foldl implStep R := ⟨_, rfl⟩
      have hstep2 : (plist p (k + 1)).foldl implStep R = mergeR Rk (Rk.getD k 0) (Rk.getD (p.idxOf (c : Int)) 0) := by
        rw [hRk, hstep]
      rw [← hRk] at hlead hRl
      obtain ⟨q, hq⟩ : ∃ q : Nat, q = p.idxOf (c : Int) := ⟨_, rfl⟩
      rw [← hq] at c2 hstep2 hidx
      have HST := Lib.hid hstep2; have HRL := Lib.hid hRl; clear hstep hstep2 hRl hRk hq hcd hcell hc0 hc1
      go_wp2_with fail
      refine (join_any _ base _ Rk k q hlead (by rw [HRL.out]; exact hlt) (by rw [HRL.out]; exact hidx)).mono ?_
      rintro e w4 ⟨rfl, hlead4, hg4⟩
      go_wp2
      go_roundw
      case rel => exact ⟨k + 1, by omega, by go_num, by rw [HST.out]; exact hlead4, sl_kept hy hg4 (apart_ne hap.out.symm), hbel.grown hg4 hbel.size fun j hj => Nat.le_trans hbase (lead_lt hlead j hj).1⟩
      case measure => simp [intOf]; omega
    · obtain rfl : k = p.length := by omega
      go_wp2
      go_end0
      exact ⟨rfl, hlead, hbel⟩

set_option maxHeartbeats 800000 in
set_option maxRecDepth 100000 in
theorem impl_JoinPartitions (w : World) (v : Value) (p : List Int) (u : Value) (q : List Int) (hp : Rd w v p) (hq : Rd w u q) :
    Calls Try.prog 27 #[v, u] w (RetLI w (fJoinPartitions p q).1 (fJoinPartitions p q).2) := by
  unfold fJoinPartitions
  by_cases hb : BothP p q
  · rw [if_pos hb]
    have hfold : implL p.length (plist p p.length ++ plist q q.length) = (plist q q.length).foldl implStep ((plist p p.length).foldl implStep (upTo 0 p.length)) := by
      unfold implL; rw [List.foldl_append]
    rw [hfold]
    have hp2 := hb.1.1
    have HB := Lib.hid hb; have DB := Lib.hid (decide_eq_true hb); clear hb hfold
    have Rp := hp; have Rq := hq
    obtain ⟨a1, cap1, rfl, l1, _⟩ := hp
    go_enter Try.func27, Try.ntmps27
    go_wp2_with fail
    refine (implBoth_any _ _ _ _ _ true Rp Rq DB.out).mono ?_; rintro e w1 ⟨rfl, hb1⟩
    go_wp2_with fail
    refine (newLeaders_any _ p.length (by omega)).mono ?_; rintro e w2 ⟨gl, rfl, hlead0, hb2⟩
    have hb12 := hb1.trans (hb2.mono hb1.size)
    have hlead : Lead w2 w.heap.size (.slice (some ⟨gl, 0, none⟩) p.length p.length) (upTo 0 p.length) := by
      obtain ⟨l, h1, h2⟩ := hlead0
      exact ⟨l, h1.mono hb1.size, h2⟩
    clear hlead0
    go_wp2_with fail
    refine (joinClasses_any w _ w.heap.size _ _ _ p hlead hb12 (Nat.le_refl _) Rp HB.out.1 (by rw [upTo_length])).mono ?_
    rintro e w3 ⟨rfl, hlead3, hb3⟩
    go_wp2_with fail
    refine (joinClasses_any w _ w.heap.size _ _ _ q hlead3 hb3 (Nat.le_refl _) Rq HB.out.2.1 (by rw [implFold_len, upTo_length, HB.out.2.2])).mono ?_
    rintro e w4 ⟨rfl, hlead4, hb4⟩
    go_wp2_with fail
    refine (classes_any _ w.heap.size _ _ hlead4).mono ?_; rintro e w5 ⟨y, rfl, hs5, hb5⟩
    go_wp2
    go_ret2
    exact ⟨_, rfl, hs5.mono hb4.size, hb5 w hb4 (Nat.le_refl _)⟩
  · rw [if_neg hb]
    have DB := Lib.hid (decide_eq_false hb); clear hb
    go_enter Try.func27, Try.ntmps27
    go_wp2_with fail
    refine (implBoth_any _ _ _ _ _ false hp hq DB.out).mono ?_; rintro e w1 ⟨rfl, hb1⟩
    go_wp2
    go_ret2
    exact ⟨_, rfl, Sl.nil _ _, hb1⟩

end Go.Proofs.Ytgkfampgofjkfaa
