
/- The program's test of one composite, of all of them, and of a shape. -/
import Derived.RegionTactic
import Derived.Test.YtakifeiemcldlaaHasI
namespace Go.Proofs.Ytakifeiemcldlaa
open Go.RowKit

theorem row2_len {c : Cat} (hr : RowsP c) {f : Int} (f0 : 0 ≤ f) (f1 : f < c.m.length) : (row2 c.m f).length = c.s.length := hr f.toNat (by omega)

theorem cell_new0 (w : World) (x : Int) (t : TypeId) : (w.alloc (.cells #[.int .i64 x] t)).cell? ⟨w.heap.size, 0, none⟩ = some (.int .i64 x) := by
  rw [World.cell?_alloc_at _ _ _ _ rfl]; rfl

set_option maxHeartbeats 2000000 in
set_option maxRecDepth 100000 in
theorem fits_any (w : World) (v : Value) (c : Cat) (f g : Int) (b : Bool) (h : RdC w v c) (hL : LenP c) (hR : RowsP c) (f0 : 0 ≤ f) (f1 : f < c.s.length) (g0 : 0 ≤ g) (g1 : g < c.s.length) (hb : bP (okComp c f g) = b) :
    Calls Try.prog 89 #[v, .int .i64 f, .int .i64 g] w (RetB w b) := by
  have HV := Lib.hid h
  obtain ⟨x1, x2, x3, x4, k1, k2, k3, k4, rfl, hs, ht, _, _, l1, l2, l3, l4⟩ := h.lists
  have tl := hL.tl; have ml := hL.ml
  obtain ⟨b1, o1, rfl, hb1, hc1⟩ := rd_at hs f0 f1
  have hc2 := rd_at hs g0 g1
  obtain ⟨b2, o2, rfl, hb2, hc3⟩ := rd_at ht f0 (by omega)
  have hc4 := rd_at ht g0 (by omega)
  obtain ⟨_, _, he, _, hc2⟩ := hc2
  simp only [Option.some.injEq, Addr.mk.injEq, and_true] at he
  obtain ⟨rfl, rfl⟩ := he
  obtain ⟨_, _, he, _, hc4⟩ := hc4
  simp only [Option.some.injEq, Addr.mk.injEq, and_true] at he
  obtain ⟨rfl, rfl⟩ := he
  have f1' : f < c.m.length := by omega
  have g1' : g < (row2 c.m f).length := by rw [row2_len hR f0 f1']; exact g1
  have f2 : f < c.t.length := by omega
  have g2 : g < c.t.length := by omega
  have TL := Lib.hid tl
  clear h hs ht hL hR ml tl
  have HB := Lib.hid hb; clear hb
  have hok : okComp c f g ↔ (at0 c.t f = at0 c.s g → c.arr (c.th f g) ∧ at0 c.s (c.th f g) = at0 c.s f ∧ at0 c.t (c.th f g) = at0 c.t g) ∧ (at0 c.t f ≠ at0 c.s g → c.th f g = -1) := Iff.rfl
  have hth := then_any (c := c) (f := f) (g := g)
  have HT : Hid (∀ w v, RdC w v c → Calls Try.prog 65 #[v, .int .i64 f, .int .i64 g] w (RetI w (c.th f g))) := fun w v hv => then_any w v c f g hv f0 f1' g0 g1'
  clear hth
  obtain ⟨z, hz⟩ : ∃ z, z = c.th f g := ⟨_, rfl⟩
  rw [← hz] at hok HT
  generalize at0 c.s f = sf at hok hc1
  generalize at0 c.s g = sg at hok hc2
  generalize at0 c.t f = tf at hok hc3
  generalize at0 c.t g = tg at hok hc4
  have HOK := Lib.hid hok
  clear hok hz g1' f1'
  have hb0 := (Below.refl w.heap.size w).alloc (Nat.le_refl _) (.cells #[.int .i64 c.ob, .slice (some ⟨b1, o1, none⟩) c.s.length k1, .slice (some ⟨b2, o2, none⟩) c.t.length k2, .slice x3 c.e.length k3, .slice x4 c.m.length k4] 28)
  have X0 := Lib.hid (bx_new w 28 [.int .i64 c.ob, .slice (some ⟨b1, o1, none⟩) c.s.length k1, .slice (some ⟨b2, o2, none⟩) c.t.length k2, .slice x3 c.e.length k3, .slice x4 c.m.length k4])
  go_enter Try.func89, Try.ntmps89
  go_wp2_with fail
  refine (HT.out _ _ (rdC_below hb0 HV.out)).mono ?_; rintro e w1 ⟨rfl, hn1⟩
  have X1 := Lib.hid (bx_below hn1 X0.out)
  have hbel := hb0.trans (hn1.mono hb0.size)
  clear hb0 hn1 X0 HT
  have d1 := (hbel.cell (p := ⟨b1, o1 + f.toNat, none⟩) hb1).trans hc1
  have d2 := (hbel.cell (p := ⟨b1, o1 + g.toNat, none⟩) hb1).trans hc2
  have d3 := (hbel.cell (p := ⟨b2, o2 + f.toNat, none⟩) hb2).trans hc3
  have d4 := (hbel.cell (p := ⟨b2, o2 + g.toNat, none⟩) hb2).trans hc4
  have c5 := bx5 X1.out
  by_cases q : tf = sg
  · subst q
    have HOK2 : Hid (okComp c f g ↔ c.arr z ∧ at0 c.s z = sf ∧ at0 c.t z = tg) := by
      show okComp c f g ↔ _
      rw [HOK.out]
      simp
    clear HOK
    have t0 : (tf != tf) = false := by simp
    go_wp2
    go_quiet (fail)
    go_wp2
    clear t0
    generalize hW : World.drewN _ _ = W
    have hbW : Below w.heap.size w W := by rw [← hW]; exact below_quiet hbel
    have XW : Bx W w.heap.size 28 [.int .i64 c.ob, .slice (some ⟨b1, o1, none⟩) c.s.length k1, .slice (some ⟨b2, o2, none⟩) c.t.length k2, .slice x3 c.e.length k3, .slice x4 c.m.length k4] := by rw [← hW]; exact X1.out
    clear hW c5 d1 d2 d3 d4 X1 hbel
    have d1 := (hbW.cell (p := ⟨b1, o1 + f.toNat, none⟩) hb1).trans hc1
    have d4 := (hbW.cell (p := ⟨b2, o2 + g.toNat, none⟩) hb2).trans hc4
    have c5 := bx5 XW
    have X1 := Lib.hid XW; clear XW
    by_cases ha : c.arr z
    · have A1 := Lib.hid (bP_t (allP_one.2 ha))
      obtain ⟨z0, z1⟩ := ha
      have z2 : z < c.t.length := by have := TL.out; omega
      have T1 := rdC_below ((hbW.alloc hbW.size (.cells #[.int .i64 z] 2)).drew) HV.out
      have T2 : Rd (W.alloc (.cells #[.int .i64 z] 2)).drew (.slice (some ⟨W.heap.size, 0, none⟩) 1 1) [z] := rd_one (by simp) (cell_new0 W z _)
      have T3 := hasArrows_any _ _ _ c [z] true T1 T2 A1.out
      have T4 : Hid (∀ u1, Below (W.alloc (.cells #[.int .i64 z] 2)).drew.heap.size (W.alloc (.cells #[.int .i64 z] 2)).drew u1 → Below W.heap.size W u1) := fun u1 hn1 => (((Below.refl _ _).alloc (Nat.le_refl _) _).drew).trans (hn1.mono (by simp))
      have EN : Hid (∀ w v, RdC w v c → Calls Try.prog 87 #[v, .int .i64 z] w (RetE w (at0 c.s z) (at0 c.t z))) := fun w v hv => ends_any w v c z hv z0 z1 z2
      have hcase : ((at0 c.s z == sf) = true ∧ (at0 c.t z == tg) = true ∧ b = true) ∨ ((at0 c.s z == sf) = true ∧ (at0 c.t z == tg) = false ∧ b = false) ∨ ((at0 c.s z == sf) = false ∧ b = false) := by
        by_cases q1 : at0 c.s z = sf
        · by_cases q2 : at0 c.t z = tg
          · exact .inl ⟨by simpa using q1, by simpa using q2, by rw [← HB.out]; exact bP_t (HOK2.out.2 ⟨⟨z0, z1⟩, q1, q2⟩)⟩
          · exact .inr (.inl ⟨by simpa using q1, by simpa using q2, by rw [← HB.out]; exact bP_f fun hh => q2 (HOK2.out.1 hh).2.2⟩)
        · exact .inr (.inr ⟨by simpa using q1, by rw [← HB.out]; exact bP_f fun hh => q1 (HOK2.out.1 hh).2.1⟩)
      generalize at0 c.s z = y at EN hcase
      generalize at0 c.t z = yt at EN hcase
      rcases hcase with ⟨t1, t2, rfl⟩ | ⟨t1, t2, rfl⟩ | ⟨t1, rfl⟩
      all_goals
        go_region_held3 (fun w' => (w'.cell? ⟨w.heap.size, 0, none⟩ = some (.int .i64 c.ob) ∧ w'.cell? ⟨w.heap.size, 1, none⟩ = some (.slice (some ⟨b1, o1, none⟩) c.s.length k1) ∧ w'.cell? ⟨w.heap.size, 2, none⟩ = some (.slice (some ⟨b2, o2, none⟩) c.t.length k2) ∧ w'.cell? ⟨w.heap.size, 3, none⟩ = some (.slice x3 c.e.length k3) ∧ w'.cell? ⟨w.heap.size, 4, none⟩ = some (.slice x4 c.m.length k4)) ∧ w'.cell? ⟨b1, o1 + f.toNat, none⟩ = some (.int .i64 sf) ∧ w'.cell? ⟨b2, o2 + g.toNat, none⟩ = some (.int .i64 tg))
          (first | exact ⟨c5, d1, d4⟩ | exact ⟨bx5 (bx_below hm2 X1.out), (hm2.cell (p := ⟨b1, _, none⟩) (Nat.lt_of_lt_of_le hb1 hbW.size)).trans d1, (hm2.cell (p := ⟨b2, _, none⟩) (Nat.lt_of_lt_of_le hb2 hbW.size)).trans d4⟩ | exact ⟨bx5 (bx_below hm1 X1.out), (hm1.cell (p := ⟨b1, _, none⟩) (Nat.lt_of_lt_of_le hb1 hbW.size)).trans d1, (hm1.cell (p := ⟨b2, _, none⟩) (Nat.lt_of_lt_of_le hb2 hbW.size)).trans d4⟩ | go_keep)
          (first
            | (go_at_call 88; refine T3.mono ?_; rintro e u1 ⟨rfl, hn1⟩; have hm1 : Below W.heap.size W u1 := T4.out _ hn1)
            | (go_at_call 87; refine (EN.out _ _ (rdC_below (hbW.trans (hm1.mono hbW.size)) HV.out)).mono ?_; rintro e u2 ⟨rfl, hn2⟩; have hm2 : Below W.heap.size W u2 := hm1.trans (hn2.mono hm1.size))
            | (go_at_call 87; refine (EN.out _ _ (rdC_below (hbW.trans (hm1.mono hbW.size)).drew HV.out)).mono ?_; rintro e u2 ⟨rfl, hn2⟩; have hm2 : Below W.heap.size W u2 := hm1.drew.trans (hn2.mono hm1.drew.size)))
        go_wp2
        go_ret
        exact ⟨rfl, by first | exact hbW.trans (hm2.mono hbW.size) | exact (hbW.trans (hm2.mono hbW.size)).drew⟩
    · have A1 := Lib.hid (bP_f (fun hh => ha (allP_one.1 hh)))
      obtain rfl : b = false := by rw [← HB.out]; exact bP_f fun hh => ha (HOK2.out.1 hh).1
      have T1 := rdC_below ((hbW.alloc hbW.size (.cells #[.int .i64 z] 2)).drew) HV.out
      have T2 : Rd (W.alloc (.cells #[.int .i64 z] 2)).drew (.slice (some ⟨W.heap.size, 0, none⟩) 1 1) [z] := rd_one (by simp) (cell_new0 W z _)
      have T3 := hasArrows_any _ _ _ c [z] false T1 T2 A1.out
      have T4 : Hid (∀ u1, Below (W.alloc (.cells #[.int .i64 z] 2)).drew.heap.size (W.alloc (.cells #[.int .i64 z] 2)).drew u1 → Below W.heap.size W u1) := fun u1 hn1 => (((Below.refl _ _).alloc (Nat.le_refl _) _).drew).trans (hn1.mono (by simp))
      clear ha
      refine wp_region_held_drew (S := (fun w' => (w'.cell? ⟨w.heap.size, 0, none⟩ = some (.int .i64 c.ob) ∧ w'.cell? ⟨w.heap.size, 1, none⟩ = some (.slice (some ⟨b1, o1, none⟩) c.s.length k1) ∧ w'.cell? ⟨w.heap.size, 2, none⟩ = some (.slice (some ⟨b2, o2, none⟩) c.t.length k2) ∧ w'.cell? ⟨w.heap.size, 3, none⟩ = some (.slice x3 c.e.length k3) ∧ w'.cell? ⟨w.heap.size, 4, none⟩ = some (.slice x4 c.m.length k4)))) (by kernel_rfl) c5 (fun hHeld => ?_)
      refine wpAnyH_take (i := 0) (oi := ⟨some 25, _, _, _, _, _⟩) (v := ?_) rfl (by kernel_rfl) (by kernel_rfl) (by kernel_rfl) (fun _ _ _ h => h) (Or.inl ⟨by kernel_rfl, ?_⟩) (by assumption) ?_
      rotate_left 1
      · intro w' hSw; (try dsimp only at hSw); go_split_ands; go_simp; (try with_reducible rfl)
      (try simp only [Act.put, List.setIfInBounds_toArray, List.set_cons_zero, List.set_cons_succ])
      refine wpAnyH_take (i := 1) (oi := ⟨some 26, _, _, _, _, _⟩) (v := ?_) rfl (by kernel_rfl) (by kernel_rfl) (by kernel_rfl) (fun _ _ _ h => h) (Or.inl ⟨by kernel_rfl, ?_⟩) (by assumption) ?_
      rotate_left 1
      · intro w' hSw; (try dsimp only at hSw); go_split_ands; go_simp; (try with_reducible rfl)
      (try simp only [Act.put, List.setIfInBounds_toArray, List.set_cons_zero, List.set_cons_succ])
      refine wpAnyH_ready (rs := [2]) (by kernel_rfl) (by simp) ?_
      refine AllReadyH.cons rfl (fun K hK => ?_) AllReadyH.nil
      go_simp
      refine hK.out _ _ ?_ (fun hHeld => ?_)
      · exact bx5 (bx_alloc (o := .cells #[.int .i64 z] 2) X1.out)
      clear hK K
      (try simp only [Act.put, List.setIfInBounds_toArray, List.set_cons_zero, List.set_cons_succ])
      refine wpAnyH_ready (rs := [3]) (by kernel_rfl) (by simp) ?_
      refine AllReadyH.cons rfl (fun K hK => ?_) AllReadyH.nil
      go_simp
      refine T3.mono ?_; rintro e u1 ⟨rfl, hn1⟩; have hm1 : Below W.heap.size W u1 := T4.out _ hn1
      go_wp2_with fail
      refine hK.out _ _ ?_ (fun hHeld => ?_)
      · exact bx5 (bx_below hm1 X1.out)
      clear hK K
      (try simp only [Act.put, List.setIfInBounds_toArray, List.set_cons_zero, List.set_cons_succ])
      refine wpAnyH_take (i := 4) (oi := ⟨some 29, _, _, _, _, _⟩) (v := ?_) rfl (by kernel_rfl) (by kernel_rfl) (by kernel_rfl) (fun _ _ _ h => h) (Or.inl ⟨by kernel_rfl, ?_⟩) (by assumption) ?_
      rotate_left 1
      · intro w' hSw; (try dsimp only at hSw); go_split_ands; go_simp; (try with_reducible rfl)
      (try simp only [Act.put, List.setIfInBounds_toArray, List.set_cons_zero, List.set_cons_succ])
      refine wpAnyH_take (i := 5) (oi := ⟨some 30, _, _, _, _, _⟩) (v := undef) rfl (by kernel_rfl) (by kernel_rfl) (by kernel_rfl) (fun _ _ _ h => h) (Or.inr ⟨by kernel_rfl, rfl⟩) (by assumption) ?_
      (try simp only [Act.put, List.setIfInBounds_toArray, List.set_cons_zero, List.set_cons_succ])
      refine wpAnyH_take (i := 6) (oi := ⟨some 31, _, _, _, _, _⟩) (v := undef) rfl (by kernel_rfl) (by kernel_rfl) (by kernel_rfl) (fun _ _ _ h => h) (Or.inr ⟨by kernel_rfl, rfl⟩) (by assumption) ?_
      (try simp only [Act.put, List.setIfInBounds_toArray, List.set_cons_zero, List.set_cons_succ])
      refine wpAnyH_take (i := 7) (oi := ⟨some 32, _, _, _, _, _⟩) (v := undef) rfl (by kernel_rfl) (by kernel_rfl) (by kernel_rfl) (fun _ _ _ h => h) (Or.inr ⟨by kernel_rfl, rfl⟩) (by assumption) ?_
      (try simp only [Act.put, List.setIfInBounds_toArray, List.set_cons_zero, List.set_cons_succ])
      refine wpAnyH_take (i := 8) (oi := ⟨some 33, _, _, _, _, _⟩) (v := undef) rfl (by kernel_rfl) (by kernel_rfl) (by kernel_rfl) (fun _ _ _ h => h) (Or.inr ⟨by kernel_rfl, rfl⟩) (by assumption) ?_
      (try simp only [Act.put, List.setIfInBounds_toArray, List.set_cons_zero, List.set_cons_succ])
      refine wpAnyH_take (i := 9) (oi := ⟨some 34, _, _, _, _, _⟩) (v := undef) rfl (by kernel_rfl) (by kernel_rfl) (by kernel_rfl) (fun _ _ _ h => h) (Or.inr ⟨by kernel_rfl, rfl⟩) (by assumption) ?_
      (try simp only [Act.put, List.setIfInBounds_toArray, List.set_cons_zero, List.set_cons_succ])
      refine wpAnyH_take (i := 10) (oi := ⟨some 35, _, _, _, _, _⟩) (v := undef) rfl (by kernel_rfl) (by kernel_rfl) (by kernel_rfl) (fun _ _ _ h => h) (Or.inr ⟨by kernel_rfl, rfl⟩) (by assumption) ?_
      (try simp only [Act.put, List.setIfInBounds_toArray, List.set_cons_zero, List.set_cons_succ])
      refine wpAnyH_take (i := 11) (oi := ⟨some 36, _, _, _, _, _⟩) (v := undef) rfl (by kernel_rfl) (by kernel_rfl) (by kernel_rfl) (fun _ _ _ h => h) (Or.inr ⟨by kernel_rfl, rfl⟩) (by assumption) ?_
      (try simp only [Act.put, List.setIfInBounds_toArray, List.set_cons_zero, List.set_cons_succ])
      refine wpAnyH_take (i := 12) (oi := ⟨some 37, _, _, _, _, _⟩) (v := undef) rfl (by kernel_rfl) (by kernel_rfl) (by kernel_rfl) (fun _ _ _ h => h) (Or.inr ⟨by kernel_rfl, rfl⟩) (by assumption) ?_
      (try simp only [Act.put, List.setIfInBounds_toArray, List.set_cons_zero, List.set_cons_succ])
      refine wpAnyH_take (i := 13) (oi := ⟨some 38, _, _, _, _, _⟩) (v := undef) rfl (by kernel_rfl) (by kernel_rfl) (by kernel_rfl) (fun _ _ _ h => h) (Or.inr ⟨by kernel_rfl, rfl⟩) (by assumption) ?_
      (try simp only [Act.put, List.setIfInBounds_toArray, List.set_cons_zero, List.set_cons_succ])
      refine wpAnyH_take (i := 14) (oi := ⟨some 39, _, _, _, _, _⟩) (v := undef) rfl (by kernel_rfl) (by kernel_rfl) (by kernel_rfl) (fun _ _ _ h => h) (Or.inr ⟨by kernel_rfl, rfl⟩) (by assumption) ?_
      (try simp only [Act.put, List.setIfInBounds_toArray, List.set_cons_zero, List.set_cons_succ])
      refine wpAnyH_take (i := 15) (oi := ⟨some 40, _, _, _, _, _⟩) (v := undef) rfl (by kernel_rfl) (by kernel_rfl) (by kernel_rfl) (fun _ _ _ h => h) (Or.inr ⟨by kernel_rfl, rfl⟩) (by assumption) ?_
      (try simp only [Act.put, List.setIfInBounds_toArray, List.set_cons_zero, List.set_cons_succ])
      refine wpAnyH_take (i := 16) (oi := ⟨some 41, _, _, _, _, _⟩) (v := undef) rfl (by kernel_rfl) (by kernel_rfl) (by kernel_rfl) (fun _ _ _ h => h) (Or.inr ⟨by kernel_rfl, rfl⟩) (by assumption) ?_
      (try simp only [Act.put, List.setIfInBounds_toArray, List.set_cons_zero, List.set_cons_succ])
      refine wpAnyH_take (i := 17) (oi := ⟨some 42, _, _, _, _, _⟩) (v := undef) rfl (by kernel_rfl) (by kernel_rfl) (by kernel_rfl) (fun _ _ _ h => h) (Or.inr ⟨by kernel_rfl, rfl⟩) (by assumption) ?_
      (try simp only [Act.put, List.setIfInBounds_toArray, List.set_cons_zero, List.set_cons_succ])
      refine wpAnyH_take (i := 18) (oi := ⟨some 43, _, _, _, _, _⟩) (v := undef) rfl (by kernel_rfl) (by kernel_rfl) (by kernel_rfl) (fun _ _ _ h => h) (Or.inr ⟨by kernel_rfl, rfl⟩) (by assumption) ?_
      (try simp only [Act.put, List.setIfInBounds_toArray, List.set_cons_zero, List.set_cons_succ])
      refine wpAnyH_take (i := 19) (oi := ⟨some 44, _, _, _, _, _⟩) (v := undef) rfl (by kernel_rfl) (by kernel_rfl) (by kernel_rfl) (fun _ _ _ h => h) (Or.inr ⟨by kernel_rfl, rfl⟩) (by assumption) ?_
      (try simp only [Act.put, List.setIfInBounds_toArray, List.set_cons_zero, List.set_cons_succ])
      refine wpAnyH_take (i := 20) (oi := ⟨some 45, _, _, _, _, _⟩) (v := ?_) rfl (by kernel_rfl) (by kernel_rfl) (by kernel_rfl) (fun _ _ _ h => h) (Or.inl ⟨by kernel_rfl, ?_⟩) (by assumption) ?_
      rotate_left 1
      · intro w' hSw; (try dsimp only at hSw); go_split_ands; go_simp; (try with_reducible rfl)
      (try simp only [Act.put, List.setIfInBounds_toArray, List.set_cons_zero, List.set_cons_succ])
      refine wpAnyH_take (i := 21) (oi := ⟨some 6, _, _, _, _, _⟩) (v := ?_) rfl (by kernel_rfl) (by kernel_rfl) (by kernel_rfl) (fun _ _ _ h => h) (Or.inl ⟨by kernel_rfl, ?_⟩) (by assumption) ?_
      rotate_left 1
      · intro w' hSw; (try dsimp only at hSw); go_split_ands; go_simp; (try with_reducible rfl)
      (try simp only [Act.put, List.setIfInBounds_toArray, List.set_cons_zero, List.set_cons_succ])
      refine wpAnyH_done (by kernel_rfl) ?_ _
      go_wp2
      go_ret
      exact ⟨rfl, by first | exact hbW.trans (hm1.mono hbW.size) | exact (hbW.trans (hm1.mono hbW.size)).drew⟩
  · have HOK2 : Hid (okComp c f g ↔ z = -1) := by
      show okComp c f g ↔ _
      rw [HOK.out]
      constructor
      · intro h; exact h.2 q
      · intro h; exact ⟨fun h' => absurd h' q, fun _ => h⟩
    clear HOK
    have t0 : (tf != sg) = true := by simpa using q
    go_wp2
    go_quiet (fail)
    by_cases hm : z = -1
    · obtain rfl : b = true := by rw [← HB.out]; exact bP_t (HOK2.out.2 hm)
      have t1 : (z == -1) = true := by simp [hm]
      clear hm q
      go_wp2
      go_ret
      exact ⟨rfl, below_quiet hbel⟩
    · obtain rfl : b = false := by rw [← HB.out]; exact bP_f fun hh => hm (HOK2.out.1 hh)
      have t1 : (z == -1) = false := by simpa using hm
      clear hm q
      go_wp2
      go_ret
      exact ⟨rfl, below_quiet hbel⟩

set_option maxHeartbeats 800000 in
set_option maxRecDepth 100000 in
theorem hasComposites_any (w : World) (v : Value) (c : Cat) (b : Bool) (h : RdC w v c) (hL : LenP c) (hR : RowsP c) (hb : bP (∀ f g : Nat, f < c.s.length → g < c.s.length → okComp c f g) = b) :
    Calls Try.prog 57 #[v] w (RetB w b) := by
  have HV := Lib.hid h
  obtain ⟨x1, x2, x3, x4, k1, k2, k3, k4, rfl, _, _, _, _, l1, l2, l3, l4⟩ := h.lists
  have HL := Lib.hid hL; have HR := Lib.hid hR
  clear h hL hR
  have HB := Lib.hid hb; clear hb
  have hb0 := (Below.refl w.heap.size w).alloc (Nat.le_refl _) (.cells #[.int .i64 c.ob, .slice x1 c.s.length k1, .slice x2 c.t.length k2, .slice x3 c.e.length k3, .slice x4 c.m.length k4] 28)
  have X0 := Lib.hid (bx_new w 28 [.int .i64 c.ob, .slice x1 c.s.length k1, .slice x2 c.t.length k2, .slice x3 c.e.length k3, .slice x4 c.m.length k4])
  go_enter Try.func57, Try.ntmps57
  go_wp2_with fail
  refine (arrows_any _ _ c (rdC_below hb0 HV.out)).mono ?_; rintro e w1 ⟨rfl, hn1⟩
  have X1 := Lib.hid (bx_below hn1 X0.out)
  have hb1 := hb0.trans (hn1.mono hb0.size)
  clear hb0 hn1 X0
  go_wp2
  go_loopw [3, 4, 7, 10, 11, 12, 13, 14, 15, 16, 17, 18, 19, 20] (fun _ _ i _ _ _ _ _ _ _ _ _ _ _ wr => ∃ k : Nat, k ≤ c.s.length ∧ i = .int .i64 k ∧ Hid (∀ f g : Nat, f < k → g < c.s.length → okComp c f g) ∧ Hid (Bx wr w.heap.size 28 [.int .i64 c.ob, .slice x1 c.s.length k1, .slice x2 c.t.length k2, .slice x3 c.e.length k3, .slice x4 c.m.length k4]) ∧ Below w.heap.size w wr) (fun _ _ i _ _ _ _ _ _ _ _ _ _ _ _ => c.s.length - (intOf i).toNat)
  case atStart => exact ⟨0, Nat.zero_le _, rfl, fun f g hf => absurd hf (by omega), X1.out, hb1⟩
  case round =>
    obtain ⟨k, hk, rfl, hall, hbx, hbel⟩ := hrel
    by_cases hlt : k < c.s.length
    · have c5 := bx5 hbx.out
      go_wp2_with fail
      refine (arrows_any _ _ c (rdC_below hbel HV.out)).mono ?_; rintro e w2 ⟨rfl, hn2⟩
      have X2 := Lib.hid (bx_below hn2 hbx.out)
      have hb2 := hbel.trans (hn2.mono hbel.size)
      clear hn2 hbx hbel c5
      go_wp2
      obtain ⟨wo, rfl⟩ : ∃ wo : World, wo = w2 := ⟨_, rfl⟩
      go_loopw [4, 12, 13, 14, 15, 16, 17, 18, 19, 20] (fun _ i _ _ _ _ _ _ _ _ wr => ∃ m : Nat, m ≤ c.s.length ∧ i = .int .i64 m ∧ Hid (∀ g : Nat, g < m → okComp c k g) ∧ Hid (Bx wr w.heap.size 28 [.int .i64 c.ob, .slice x1 c.s.length k1, .slice x2 c.t.length k2, .slice x3 c.e.length k3, .slice x4 c.m.length k4]) ∧ Below w.heap.size w wr) (fun _ i _ _ _ _ _ _ _ _ _ => c.s.length - (intOf i).toNat)
      case atStart => exact ⟨0, Nat.zero_le _, rfl, fun g hg => absurd hg (by omega), X2, hb2⟩
      case round =>
        obtain ⟨m, hm, rfl, hall2, hbx, hbel⟩ := hrel
        by_cases hlt2 : m < c.s.length
        · have c5 := bx5 hbx.out
          by_cases hok : okComp c k m
          · have E := Lib.hid (bP_t hok)
            have HOK := Lib.hid hok; clear hok
            go_wp2_with fail
            refine (fits_any _ _ c k m true (rdC_below hbel HV.out) HL.out HR.out (by omega) (by omega) (by omega) (by omega) E.out).mono ?_; rintro e w3 ⟨rfl, hn3⟩
            have X3 := Lib.hid (bx_below hn3 hbx.out)
            have hb3 := hbel.trans (hn3.mono hbel.size)
            clear hn3 hbx hbel c5
            go_wp2
            go_roundw
            case rel =>
              refine ⟨m + 1, by omega, by go_num, fun g hg => ?_, X3, hb3⟩
              by_cases hgm : g = m
              · subst hgm; exact HOK.out
              · exact hall2.out g (by omega)
            case measure => simp [intOf]; omega
          · have E := Lib.hid (bP_f hok)
            obtain rfl : b = false := by rw [← HB.out]; exact bP_f fun hh => hok (hh k m hlt hlt2)
            clear hok
            go_wp2_with fail
            refine (fits_any _ _ c k m false (rdC_below hbel HV.out) HL.out HR.out (by omega) (by omega) (by omega) (by omega) E.out).mono ?_; rintro e w3 ⟨rfl, hn3⟩
            have hb3 := hbel.trans (hn3.mono hbel.size)
            clear hn3 hbx hbel c5
            go_wp2
            go_ret
            exact ⟨rfl, hb3⟩
        · obtain rfl : m = c.s.length := by omega
          go_wp2
          go_roundw
          case rel =>
            refine ⟨k + 1, by omega, by go_num, fun f g hf hg => ?_, hbx, hbel⟩
            by_cases hfk : f = k
            · subst hfk; exact hall2.out g hg
            · exact hall.out f g (by omega) hg
          case measure => simp [intOf]; omega
    · obtain rfl : k = c.s.length := by omega
      obtain rfl : b = true := by rw [← HB.out]; exact bP_t fun f g hf hg => hall.out f g hf hg
      go_wp2
      go_ret
      exact ⟨rfl, hbel⟩

set_option maxHeartbeats 800000 in
set_option maxRecDepth 100000 in
theorem impl_IsShape (w : World) (v : Value) (c : Cat) (h : RdC w v c) : Calls Try.prog 18 #[v] w (RetB w (fIsShape c)) := by
  have HV := Lib.hid h
  obtain ⟨x1, x2, x3, x4, k1, k2, k3, k4, rfl, hs, ht, _, _, l1, l2, l3, l4⟩ := h.lists
  have HSs := Lib.hid hs; have HTt := Lib.hid ht
  clear h hs ht
  obtain ⟨b, hb⟩ : ∃ b, b = fIsShape c := ⟨_, rfl⟩
  rw [← hb]
  have HB := Lib.hid hb; clear hb
  have hb0 := (Below.refl w.heap.size w).alloc (Nat.le_refl _) (.cells #[.int .i64 c.ob, .slice x1 c.s.length k1, .slice x2 c.t.length k2, .slice x3 c.e.length k3, .slice x4 c.m.length k4] 28)
  have X0 := Lib.hid (bx_new w 28 [.int .i64 c.ob, .slice x1 c.s.length k1, .slice x2 c.t.length k2, .slice x3 c.e.length k3, .slice x4 c.m.length k4])
  by_cases q1 : LenP c ∧ RowsP c
  · obtain ⟨hL, hR⟩ := q1
    have E1 := Lib.hid (bP_t (⟨hL, hR⟩ : LenP c ∧ RowsP c))
    have HL := Lib.hid hL; have HR := Lib.hid hR; clear hL hR
    by_cases q2 : AllP c.ob c.s
    · have E2 := Lib.hid (bP_t q2)
      have Q2 := Lib.hid q2; clear q2
      by_cases q3 : AllP c.ob c.t
      · have E3 := Lib.hid (bP_t q3)
        have Q3 := Lib.hid q3; clear q3
        by_cases q4 : ∀ x : Nat, x < c.e.length → okIdent c x
        · have E4 := Lib.hid (bP_t q4)
          have Q4 := Lib.hid q4; clear q4
          have E5 : Hid (bP (∀ f g : Nat, f < c.s.length → g < c.s.length → okComp c f g) = b) := by
            show _ = _
            rw [HB.out]
            exact bP_congr ⟨fun hh => ⟨HL.out, HR.out, Q2.out, Q3.out, Q4.out, hh⟩, fun hh => hh.co⟩
          go_enter Try.func18, Try.ntmps18
          go_wp2_with fail
          refine (hasLengths_any _ _ c true (rdC_below hb0 HV.out) E1.out).mono ?_; rintro e w1 ⟨rfl, hn1⟩
          have X1 := Lib.hid (bx_below hn1 X0.out); have hb1 := hb0.trans (hn1.mono hb0.size); clear hb0 hn1 X0
          have c5 := bx5 X1.out
          go_wp2_with fail
          refine (hasObjects_any _ _ _ c c.s true (rdC_below hb1 HV.out) (rd_below hb1 HSs.out) E2.out).mono ?_; rintro e w2 ⟨rfl, hn2⟩
          have X2 := Lib.hid (bx_below hn2 X1.out); have hb2 := hb1.trans (hn2.mono hb1.size); clear hb1 hn2 X1 c5
          have c5 := bx5 X2.out
          go_wp2_with fail
          refine (hasObjects_any _ _ _ c c.t true (rdC_below hb2 HV.out) (rd_below hb2 HTt.out) E3.out).mono ?_; rintro e w3 ⟨rfl, hn3⟩
          have X3 := Lib.hid (bx_below hn3 X2.out); have hb3 := hb2.trans (hn3.mono hb2.size); clear hb2 hn3 X2 c5
          have c5 := bx5 X3.out
          go_wp2_with fail
          refine (hasIdentities_any _ _ c true (rdC_below hb3 HV.out) HL.out E4.out).mono ?_; rintro e w4 ⟨rfl, hn4⟩
          have X4 := Lib.hid (bx_below hn4 X3.out); have hb4 := hb3.trans (hn4.mono hb3.size); clear hb3 hn4 X3 c5
          have c5 := bx5 X4.out
          go_wp2_with fail
          refine (hasComposites_any _ _ c b (rdC_below hb4 HV.out) HL.out HR.out E5.out).mono ?_; rintro e w5 ⟨rfl, hn5⟩
          have hb5 := hb4.trans (hn5.mono hb4.size); clear hb4 hn5 X4 c5
          go_wp2
          go_ret
          exact ⟨rfl, hb5⟩
        · have E4 := Lib.hid (bP_f q4)
          obtain rfl : b = false := by rw [HB.out]; exact bP_f fun hh => q4 hh.id
          clear q4
          go_enter Try.func18, Try.ntmps18
          go_wp2_with fail
          refine (hasLengths_any _ _ c true (rdC_below hb0 HV.out) E1.out).mono ?_; rintro e w1 ⟨rfl, hn1⟩
          have X1 := Lib.hid (bx_below hn1 X0.out); have hb1 := hb0.trans (hn1.mono hb0.size); clear hb0 hn1 X0
          have c5 := bx5 X1.out
          go_wp2_with fail
          refine (hasObjects_any _ _ _ c c.s true (rdC_below hb1 HV.out) (rd_below hb1 HSs.out) E2.out).mono ?_; rintro e w2 ⟨rfl, hn2⟩
          have X2 := Lib.hid (bx_below hn2 X1.out); have hb2 := hb1.trans (hn2.mono hb1.size); clear hb1 hn2 X1 c5
          have c5 := bx5 X2.out
          go_wp2_with fail
          refine (hasObjects_any _ _ _ c c.t true (rdC_below hb2 HV.out) (rd_below hb2 HTt.out) E3.out).mono ?_; rintro e w3 ⟨rfl, hn3⟩
          have X3 := Lib.hid (bx_below hn3 X2.out); have hb3 := hb2.trans (hn3.mono hb2.size); clear hb2 hn3 X2 c5
          have c5 := bx5 X3.out
          go_wp2_with fail
          refine (hasIdentities_any _ _ c false (rdC_below hb3 HV.out) HL.out E4.out).mono ?_; rintro e w4 ⟨rfl, hn4⟩
          have hb4 := hb3.trans (hn4.mono hb3.size); clear hb3 hn4 X3 c5
          go_wp2
          go_ret
          exact ⟨rfl, hb4⟩
      · have E3 := Lib.hid (bP_f q3)
        obtain rfl : b = false := by rw [HB.out]; exact bP_f fun hh => q3 hh.ta
        clear q3
        go_enter Try.func18, Try.ntmps18
        go_wp2_with fail
        refine (hasLengths_any _ _ c true (rdC_below hb0 HV.out) E1.out).mono ?_; rintro e w1 ⟨rfl, hn1⟩
        have X1 := Lib.hid (bx_below hn1 X0.out); have hb1 := hb0.trans (hn1.mono hb0.size); clear hb0 hn1 X0
        have c5 := bx5 X1.out
        go_wp2_with fail
        refine (hasObjects_any _ _ _ c c.s true (rdC_below hb1 HV.out) (rd_below hb1 HSs.out) E2.out).mono ?_; rintro e w2 ⟨rfl, hn2⟩
        have X2 := Lib.hid (bx_below hn2 X1.out); have hb2 := hb1.trans (hn2.mono hb1.size); clear hb1 hn2 X1 c5
        have c5 := bx5 X2.out
        go_wp2_with fail
        refine (hasObjects_any _ _ _ c c.t false (rdC_below hb2 HV.out) (rd_below hb2 HTt.out) E3.out).mono ?_; rintro e w3 ⟨rfl, hn3⟩
        have hb3 := hb2.trans (hn3.mono hb2.size); clear hb2 hn3 X2 c5
        go_wp2
        go_ret
        exact ⟨rfl, hb3⟩
    · have E2 := Lib.hid (bP_f q2)
      obtain rfl : b = false := by rw [HB.out]; exact bP_f fun hh => q2 hh.sa
      clear q2
      go_enter Try.func18, Try.ntmps18
      go_wp2_with fail
      refine (hasLengths_any _ _ c true (rdC_below hb0 HV.out) E1.out).mono ?_; rintro e w1 ⟨rfl, hn1⟩
      have X1 := Lib.hid (bx_below hn1 X0.out); have hb1 := hb0.trans (hn1.mono hb0.size); clear hb0 hn1 X0
      have c5 := bx5 X1.out
      go_wp2_with fail
      refine (hasObjects_any _ _ _ c c.s false (rdC_below hb1 HV.out) (rd_below hb1 HSs.out) E2.out).mono ?_; rintro e w2 ⟨rfl, hn2⟩
      have hb2 := hb1.trans (hn2.mono hb1.size); clear hb1 hn2 X1 c5
      go_wp2
      go_ret
      exact ⟨rfl, hb2⟩
  · have E1 := Lib.hid (bP_f q1)
    obtain rfl : b = false := by rw [HB.out]; exact bP_f fun hh => q1 ⟨hh.toLenP, hh.rl⟩
    clear q1
    go_enter Try.func18, Try.ntmps18
    go_wp2_with fail
    refine (hasLengths_any _ _ c false (rdC_below hb0 HV.out) E1.out).mono ?_; rintro e w1 ⟨rfl, hn1⟩
    have hb1 := hb0.trans (hn1.mono hb0.size); clear hb0 hn1 X0
    go_wp2
    go_ret
    exact ⟨rfl, hb1⟩

end Go.Proofs.Ytakifeiemcldlaa
