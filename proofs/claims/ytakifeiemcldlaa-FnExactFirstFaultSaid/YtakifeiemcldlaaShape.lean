
/- The model's test of a shape. -/
import Derived.RegionTactic
import Derived.Test.YtakifeiemcldlaaHasC
namespace Go.Proofs.Ytakifeiemcldlaa
open Go.RowKit

set_option maxHeartbeats 400000 in
theorem specEnds_any (w : World) (v : Value) (xs : List Int) (L : Nat) (n : Int) (b : Bool) (h : Rd w v xs) (hb : bP (xs.length = L ∧ AllP n xs) = b) :
    Calls Try.prog 51 #[v, .int .i64 L, .int .i64 n] w (RetB w b) := by
  have H := Lib.hid h
  obtain ⟨a, cap, rfl, hl, _⟩ := h
  have HB := Lib.hid hb; clear hb
  by_cases q : xs.length = L
  · subst q
    have E : Hid (decide (AllP n xs) = b) := by
      show _ = _
      rw [← HB.out, ← bP_dec]
      exact bP_congr ⟨fun h => ⟨rfl, h⟩, fun h => h.2⟩
    have t : (xs.length == xs.length) = true := by simp
    go_enter Try.func51, Try.ntmps51
    go_wp2_with fail
    refine (specMap_any _ _ _ _ b H.out E.out).mono ?_; rintro e w1 ⟨rfl, hb1⟩
    go_wp2
    go_ret
    exact ⟨rfl, hb1⟩
  · obtain rfl : b = false := by rw [← HB.out]; exact bP_f fun hh => q hh.1
    have t : (xs.length == L) = false := by simpa using q
    have t' : ((xs.length : Int) == (L : Int)) = false := by simp; omega
    clear q
    go_enter Try.func51, Try.ntmps51
    go_wp2
    go_ret
    exact ⟨rfl, Below.refl _ _⟩

theorem specEnds2_any (w : World) (v : Value) (xs : List Int) (n : Int) (b : Bool) (h : Rd w v xs) (hb : bP (AllP n xs) = b) : Calls Try.prog 51 #[v, .int .i64 xs.length, .int .i64 n] w (RetB w b) :=
  specEnds_any w v xs xs.length n b h (by rw [← hb]; exact bP_congr ⟨fun h => h.2, fun h => ⟨rfl, h⟩⟩)

theorem specIn8_any (w : World) (n : Int) (b : Bool) (hb : bP (0 ≤ n ∧ n ≤ 8) = b) : Calls Try.prog 50 #[.int .i64 n, .int .i64 0, .int .i64 8] w (Same w (.bool b)) :=
  specIn_any w n 0 8 b (by rw [← hb, bP_dec])

set_option maxHeartbeats 4000000 in
set_option maxRecDepth 100000 in
theorem spec_IsShape (w : World) (v : Value) (c : Cat) (h : RdC w v c) : Calls Try.prog 16 #[v] w (RetB w (fIsShape c)) := by
  have HV := Lib.hid h
  obtain ⟨x1, x2, x3, x4, k1, k2, k3, k4, rfl, hs, ht, he, hm, l1, l2, l3, l4⟩ := h.lists
  have HS := Lib.hid hs; have HT := Lib.hid ht; have HE := Lib.hid he; have HM := Lib.hid hm
  clear h hs ht he hm
  obtain ⟨b, hb⟩ : ∃ b, b = fIsShape c := ⟨_, rfl⟩
  rw [← hb]
  have HB := Lib.hid hb; clear hb
  have hb0 := (Below.refl w.heap.size w).alloc (Nat.le_refl _) (.cells #[.int .i64 c.ob, .slice x1 c.s.length k1, .slice x2 c.t.length k2, .slice x3 c.e.length k3, .slice x4 c.m.length k4] 28)
  have X0 := Lib.hid (bx_new w 28 [.int .i64 c.ob, .slice x1 c.s.length k1, .slice x2 c.t.length k2, .slice x3 c.e.length k3, .slice x4 c.m.length k4])
  by_cases q1 : 0 ≤ c.ob ∧ c.ob ≤ 8
  rotate_left 1
  · obtain rfl : b = false := by rw [HB.out]; exact bP_f fun hh => q1 ⟨hh.ob0, hh.ob8⟩
    have E1 := Lib.hid (bP_f q1)
    clear q1
    go_enter Try.func16, Try.ntmps16
    go_wp2_with fail
    refine (specIn8_any _ _ false E1.out).mono ?_; rintro e w1 ⟨rfl, rfl⟩
    go_wp2
    go_ret
    exact ⟨rfl, hb0⟩
  have E1 := Lib.hid (bP_t q1)
  have Q1 := Lib.hid q1; clear q1
  by_cases q2 : c.s.length ≤ 40
  rotate_left 1
  · obtain rfl : b = false := by rw [HB.out]; exact bP_f fun hh => q2 hh.n40
    have i2 : (40 : Int) < c.s.length := by omega
    clear q2
    go_enter Try.func16, Try.ntmps16
    go_wp2_with fail
    refine (specIn8_any _ _ true E1.out).mono ?_; rintro e w1 ⟨rfl, rfl⟩
    go_wp2
    go_ret
    exact ⟨rfl, hb0⟩
  have i2 : ¬ (40 : Int) < c.s.length := by omega
  have Q2 := Lib.hid q2; clear q2
  by_cases q3 : AllP c.ob c.s
  rotate_left 1
  · obtain rfl : b = false := by rw [HB.out]; exact bP_f fun hh => q3 hh.sa
    have E3 := Lib.hid (bP_f q3)
    clear q3
    go_enter Try.func16, Try.ntmps16
    go_wp2_with fail
    refine (specIn8_any _ _ true E1.out).mono ?_; rintro e w1 ⟨rfl, rfl⟩
    go_wp2_with fail
    refine (specEnds2_any _ _ c.s c.ob false (rd_below hb0 HS.out) E3.out).mono ?_; rintro e w2 ⟨rfl, hn⟩
    replace X0 := Lib.hid (bx_below hn X0.out); replace hb0 := hb0.trans (hn.mono hb0.size); clear hn
    have c5 := bx5 X0.out
    go_wp2
    go_ret
    exact ⟨rfl, hb0⟩
  have E3 := Lib.hid (bP_t q3)
  have Q3 := Lib.hid q3; clear q3
  by_cases q4 : c.t.length = c.s.length ∧ AllP c.ob c.t
  rotate_left 1
  · obtain rfl : b = false := by rw [HB.out]; exact bP_f fun hh => q4 ⟨hh.tl, hh.ta⟩
    have E4 := Lib.hid (bP_f q4)
    clear q4
    go_enter Try.func16, Try.ntmps16
    go_wp2_with fail
    refine (specIn8_any _ _ true E1.out).mono ?_; rintro e w1 ⟨rfl, rfl⟩
    go_wp2_with fail
    refine (specEnds2_any _ _ c.s c.ob true (rd_below hb0 HS.out) E3.out).mono ?_; rintro e w2 ⟨rfl, hn⟩
    replace X0 := Lib.hid (bx_below hn X0.out); replace hb0 := hb0.trans (hn.mono hb0.size); clear hn
    have c5 := bx5 X0.out
    go_wp2_with fail
    refine (specEnds_any _ _ c.t c.s.length c.ob false (rd_below hb0 HT.out) E4.out).mono ?_; rintro e w2 ⟨rfl, hn⟩
    replace X0 := Lib.hid (bx_below hn X0.out); replace hb0 := hb0.trans (hn.mono hb0.size); clear hn c5
    have c5 := bx5 X0.out
    go_wp2
    go_ret
    exact ⟨rfl, hb0⟩
  have E4 := Lib.hid (bP_t q4)
  have Q4 := Lib.hid q4; clear q4
  by_cases q5 : c.m.length = c.s.length
  rotate_left 1
  · obtain rfl : b = false := by rw [HB.out]; exact bP_f fun hh => q5 hh.ml
    have d5 : (c.m.length != c.s.length) = true := by simpa using q5
    have d5' : ((c.m.length : Int) != (c.s.length : Int)) = true := by rw [bne_iff_ne]; omega
    clear q5
    go_enter Try.func16, Try.ntmps16
    go_wp2_with fail
    refine (specIn8_any _ _ true E1.out).mono ?_; rintro e w1 ⟨rfl, rfl⟩
    go_wp2_with fail
    refine (specEnds2_any _ _ c.s c.ob true (rd_below hb0 HS.out) E3.out).mono ?_; rintro e w2 ⟨rfl, hn⟩
    replace X0 := Lib.hid (bx_below hn X0.out); replace hb0 := hb0.trans (hn.mono hb0.size); clear hn
    have c5 := bx5 X0.out
    go_wp2_with fail
    refine (specEnds_any _ _ c.t c.s.length c.ob true (rd_below hb0 HT.out) E4.out).mono ?_; rintro e w2 ⟨rfl, hn⟩
    replace X0 := Lib.hid (bx_below hn X0.out); replace hb0 := hb0.trans (hn.mono hb0.size); clear hn c5
    have c5 := bx5 X0.out
    go_wp2
    go_ret
    exact ⟨rfl, hb0⟩
  have d5 : (c.m.length != c.s.length) = false := by rw [q5]; simp
  have d5' : ((c.m.length : Int) != (c.s.length : Int)) = false := by rw [q5]; simp
  have Q5 := Lib.hid q5; clear q5
  by_cases q6 : (c.e.length : Int) = c.ob
  rotate_left 1
  · obtain rfl : b = false := by rw [HB.out]; exact bP_f fun hh => q6 hh.el
    have d6 : ((c.e.length : Int) != c.ob) = true := by rw [bne_iff_ne]; exact q6
    clear q6
    go_enter Try.func16, Try.ntmps16
    go_wp2_with fail
    refine (specIn8_any _ _ true E1.out).mono ?_; rintro e w1 ⟨rfl, rfl⟩
    go_wp2_with fail
    refine (specEnds2_any _ _ c.s c.ob true (rd_below hb0 HS.out) E3.out).mono ?_; rintro e w2 ⟨rfl, hn⟩
    replace X0 := Lib.hid (bx_below hn X0.out); replace hb0 := hb0.trans (hn.mono hb0.size); clear hn
    have c5 := bx5 X0.out
    go_wp2_with fail
    refine (specEnds_any _ _ c.t c.s.length c.ob true (rd_below hb0 HT.out) E4.out).mono ?_; rintro e w2 ⟨rfl, hn⟩
    replace X0 := Lib.hid (bx_below hn X0.out); replace hb0 := hb0.trans (hn.mono hb0.size); clear hn c5
    have c5 := bx5 X0.out
    go_wp2
    go_ret
    exact ⟨rfl, hb0⟩
  have d6 : ((c.e.length : Int) != c.ob) = false := by rw [q6]; simp
  have Q6 := Lib.hid q6; clear q6
  by_cases q7 : AllP c.s.length c.e
  rotate_left 1
  · obtain rfl : b = false := by rw [HB.out]; exact bP_f fun hh => q7 (allP_of fun j hj => by have := (hh.id j hj).1; rw [at0_nat] at this; exact this)
    have E7 := Lib.hid (decide_eq_false q7)
    clear q7
    go_enter Try.func16, Try.ntmps16
    go_wp2_with fail
    refine (specIn8_any _ _ true E1.out).mono ?_; rintro e w1 ⟨rfl, rfl⟩
    go_wp2_with fail
    refine (specEnds2_any _ _ c.s c.ob true (rd_below hb0 HS.out) E3.out).mono ?_; rintro e w2 ⟨rfl, hn⟩
    replace X0 := Lib.hid (bx_below hn X0.out); replace hb0 := hb0.trans (hn.mono hb0.size); clear hn
    have c5 := bx5 X0.out
    go_wp2_with fail
    refine (specEnds_any _ _ c.t c.s.length c.ob true (rd_below hb0 HT.out) E4.out).mono ?_; rintro e w2 ⟨rfl, hn⟩
    replace X0 := Lib.hid (bx_below hn X0.out); replace hb0 := hb0.trans (hn.mono hb0.size); clear hn c5
    have c5 := bx5 X0.out
    go_wp2_with fail
    refine (specMap_any _ _ _ c.e false (rd_below hb0 HE.out) E7.out).mono ?_; rintro e w2 ⟨rfl, hn⟩
    replace X0 := Lib.hid (bx_below hn X0.out); replace hb0 := hb0.trans (hn.mono hb0.size); clear hn c5
    have c5 := bx5 X0.out
    go_wp2
    go_ret
    exact ⟨rfl, hb0⟩
  have E7 := Lib.hid (decide_eq_true q7)
  have Q7 := Lib.hid q7; clear q7
  have HL : Hid (LenP c) := ⟨Q1.out.1, Q1.out.2, Q2.out, Q6.out, Q4.out.1, Q5.out⟩
  go_enter Try.func16, Try.ntmps16
  go_wp2_with fail
  refine (specIn8_any _ _ true E1.out).mono ?_; rintro e w1 ⟨rfl, rfl⟩
  go_wp2_with fail
  refine (specEnds2_any _ _ c.s c.ob true (rd_below hb0 HS.out) E3.out).mono ?_; rintro e w2 ⟨rfl, hn⟩
  replace X0 := Lib.hid (bx_below hn X0.out); replace hb0 := hb0.trans (hn.mono hb0.size); clear hn
  have c5 := bx5 X0.out
  go_wp2_with fail
  refine (specEnds_any _ _ c.t c.s.length c.ob true (rd_below hb0 HT.out) E4.out).mono ?_; rintro e w2 ⟨rfl, hn⟩
  replace X0 := Lib.hid (bx_below hn X0.out); replace hb0 := hb0.trans (hn.mono hb0.size); clear hn c5
  have c5 := bx5 X0.out
  go_wp2_with fail
  refine (specMap_any _ _ _ c.e true (rd_below hb0 HE.out) E7.out).mono ?_; rintro e w2 ⟨rfl, hn⟩
  replace X0 := Lib.hid (bx_below hn X0.out); replace hb0 := hb0.trans (hn.mono hb0.size); clear hn c5
  clear d5 d5' d6
  have c5 := bx5 X0.out
  go_wp2
  clear c5
  go_loopw [4] (fun i wr => ∃ k : Nat, (k : Int) ≤ c.ob ∧ i = .int .i64 k ∧ Hid (∀ j : Nat, j < k → okIdent c j) ∧ Hid (Bx wr w.heap.size 28 [.int .i64 c.ob, .slice x1 c.s.length k1, .slice x2 c.t.length k2, .slice x3 c.e.length k3, .slice x4 c.m.length k4]) ∧ Below w.heap.size w wr) (fun i _ => (c.ob - intOf i).toNat)
  case atStart => exact ⟨0, Q1.out.1, rfl, fun j hj => absurd hj (by omega), X0, hb0⟩
  case round =>
    obtain ⟨k, hk, rfl, hall, hbx, hbel⟩ := hrel
    have ho8 := Q1.out.2
    by_cases hlt : (k : Int) < c.ob
    · have c5 := bx5 hbx.out
      have hke : k < c.e.length := by have := Q6.out; omega
      have hal := allP_at Q7.out hke
      obtain ⟨b3, o3, rfl, hb3, hc3⟩ := rd_at HE.out (x := (k : Int)) (by omega) (by omega)
      have d3 : wr.cell? ⟨b3, o3 + k, none⟩ = some (.int .i64 (at0 c.e k)) := (hbel.cell (p := ⟨b3, o3 + k, none⟩) hb3).trans (by simpa using hc3)
      have hfin : okIdent c k ↔ at0 c.s (at0 c.e k) = k ∧ at0 c.t (at0 c.e k) = k := ⟨fun h => h.2, fun h => ⟨hal, h⟩⟩
      obtain ⟨x, hx⟩ : ∃ x, x = at0 c.e k := ⟨_, rfl⟩
      rw [← hx] at d3 hal hfin
      obtain ⟨g0, g1⟩ := hal
      have g2 : x < c.t.length := by have := Q4.out.1; omega
      obtain ⟨b1, o1, rfl, hb1, hc1⟩ := rd_at HS.out g0 g1
      obtain ⟨b2, o2, rfl, hb2, hc2⟩ := rd_at HT.out g0 g2
      have d1 := (hbel.cell (p := ⟨b1, o1 + x.toNat, none⟩) hb1).trans hc1
      have d2 := (hbel.cell (p := ⟨b2, o2 + x.toNat, none⟩) hb2).trans hc2
      clear hc3 hx hc1 hc2
      have HF := Lib.hid hfin; clear hfin
      generalize at0 c.s x = y at HF d1
      generalize at0 c.t x = z at HF d2
      have n0 : (0 : Int) ≤ (k : Int) := by omega
      have n1 : (k : Int) < (c.e.length : Int) := by omega
      by_cases hy : y = k
      · subst hy
        have t1 : ((k : Int) != (k : Int)) = false := by simp
        by_cases hz : z = k
        · subst hz
          have HOK : Hid (okIdent c k) := HF.out.2 ⟨rfl, rfl⟩
          go_wp2
          go_quiet (fail)
          go_wp2
          go_roundw
          case rel =>
            refine ⟨k + 1, by omega, by go_num, fun j hj => ?_, hbx, below_quiet hbel⟩
            by_cases hjk : j = k
            · subst hjk; exact HOK.out
            · exact hall.out j (by omega)
          case measure => simp [intOf]; omega
        · obtain rfl : b = false := by rw [HB.out]; exact bP_f fun hh => hz (HF.out.1 (hh.id k hke)).2
          have t2 : (z != (k : Int)) = true := by rw [bne_iff_ne]; exact hz
          clear hz
          go_wp2
          go_quiet (fail)
          go_wp2
          go_ret
          exact ⟨rfl, below_quiet hbel⟩
      · obtain rfl : b = false := by rw [HB.out]; exact bP_f fun hh => hy (HF.out.1 (hh.id k hke)).1
        have t1 : (y != (k : Int)) = true := by rw [bne_iff_ne]; exact hy
        clear hy
        go_wp2
        go_quiet (fail)
        go_wp2
        go_ret
        exact ⟨rfl, below_quiet hbel⟩
    · obtain hk' : (k : Int) = c.ob := by omega
      have HID : Hid (∀ j : Nat, j < c.e.length → okIdent c j) := fun j hj => hall.out j (by have := Q6.out; omega)
      have c5 := bx5 hbx.out
      go_wp2
      clear hlt hk' hk c5 hall
      obtain ⟨wo, rfl⟩ : ∃ wo : World, wo = wr := ⟨_, rfl⟩
      go_loopw [5] (fun i wr => ∃ f : Nat, f ≤ c.s.length ∧ i = .int .i64 f ∧ Hid (∀ j, j < f → (c.m.getD j []).length = c.s.length ∧ ∀ g : Nat, g < c.s.length → okComp c j g) ∧ Hid (Bx wr w.heap.size 28 [.int .i64 c.ob, .slice x1 c.s.length k1, .slice x2 c.t.length k2, .slice x3 c.e.length k3, .slice x4 c.m.length k4]) ∧ Below w.heap.size w wr) (fun i _ => c.s.length - (intOf i).toNat)
      case atStart => exact ⟨0, Nat.zero_le _, rfl, fun j hj => absurd hj (by omega), hbx, hbel⟩
      case round =>
        clear hbx hbel
        obtain ⟨f, hf, rfl, hall, hbx, hbel⟩ := hrel
        by_cases hlt : f < c.s.length
        · have c5 := bx5 hbx.out
          have hml : f < c.m.length := by have := Q5.out; omega
          obtain ⟨b4, o4, ar, cr, rfl, hb4, hc4, hrow⟩ := rd2_at HM.out (x := (f : Int)) (by omega) (by omega)
          have d4 : wr.cell? ⟨b4, o4 + f, none⟩ = some (.slice ar (row2 c.m f).length cr) := (hbel.cell (p := ⟨b4, o4 + f, none⟩) hb4).trans (by simpa using hc4)
          have HC4 : Hid (w.cell? ⟨b4, o4 + f, none⟩ = some (.slice ar (row2 c.m f).length cr)) := by simpa [Hid] using hc4
          have ROW := Lib.hid hrow; clear hrow hc4
          have hrl : (row2 c.m f).length = (c.m.getD f []).length := by simp [row2]
          obtain ⟨n, hn⟩ : ∃ n, n = (row2 c.m f).length := ⟨_, rfl⟩
          rw [← hn] at d4
          by_cases he : n = c.s.length
          · have HN := Lib.hid hn; clear hn hrl
            rw [he] at d4
            have t1 : (c.s.length != c.s.length) = false := by simp
            have t1' : ((c.s.length : Int) != (c.s.length : Int)) = false := by simp
            have HE2 := Lib.hid he; clear he
            go_wp2
            clear c5 t1 t1'
            obtain ⟨wp, rfl⟩ : ∃ wp : World, wp = wr := ⟨_, rfl⟩
            go_loopw [6, 7] (fun i _ wr => ∃ g : Nat, g ≤ c.s.length ∧ i = .int .i64 g ∧ Hid (∀ j : Nat, j < g → okComp c f j) ∧ Hid (Bx wr w.heap.size 28 [.int .i64 c.ob, .slice x1 c.s.length k1, .slice x2 c.t.length k2, .slice x3 c.e.length k3, .slice (some ⟨b4, o4, none⟩) c.m.length k4]) ∧ Below w.heap.size w wr) (fun i _ _ => c.s.length - (intOf i).toNat)
            case atStart => exact ⟨0, Nat.zero_le _, rfl, fun j hj => absurd hj (by omega), hbx, hbel⟩
            case round =>
              clear hbx hbel d4
              obtain ⟨g, hg, rfl, hall2, hbx, hbel⟩ := hrel
              by_cases hlt2 : g < c.s.length
              · have c5 := bx5 hbx.out
                have hr0 : (g : Int) < (row2 c.m f).length := by have := HN.out; have := HE2.out; omega
                obtain ⟨b5, o5, rfl, hb5, hc5⟩ := rd_at ROW.out (x := (g : Int)) (by omega) hr0
                obtain ⟨b1, o1, rfl, hb1, hc1⟩ := rd_at HS.out (x := (f : Int)) (by omega) (by omega)
                obtain ⟨_, _, he, _, hc1'⟩ := rd_at HS.out (x := (g : Int)) (by omega) (by omega)
                simp only [Option.some.injEq, Addr.mk.injEq, and_true] at he
                obtain ⟨rfl, rfl⟩ := he
                have tl := Q4.out.1
                obtain ⟨b2, o2, rfl, hb2, hc2⟩ := rd_at HT.out (x := (f : Int)) (by omega) (by omega)
                obtain ⟨_, _, he, _, hc2'⟩ := rd_at HT.out (x := (g : Int)) (by omega) (by omega)
                simp only [Option.some.injEq, Addr.mk.injEq, and_true] at he
                obtain ⟨rfl, rfl⟩ := he
                have d4 : wr.cell? ⟨b4, o4 + f, none⟩ = some (.slice (some ⟨b5, o5, none⟩) c.s.length cr) := by
                  rw [(hbel.cell (p := ⟨b4, o4 + f, none⟩) hb4), HC4.out, ← HN.out, HE2.out]
                have d5 : wr.cell? ⟨b5, o5 + g, none⟩ = some (.int .i64 (c.th f g)) := (hbel.cell (p := ⟨b5, o5 + g, none⟩) hb5).trans (by simpa [Cat.th] using hc5)
                have d1 : wr.cell? ⟨b1, o1 + f, none⟩ = some (.int .i64 (at0 c.s f)) := (hbel.cell (p := ⟨b1, o1 + f, none⟩) hb1).trans (by simpa using hc1)
                have d1' : wr.cell? ⟨b1, o1 + g, none⟩ = some (.int .i64 (at0 c.s g)) := (hbel.cell (p := ⟨b1, o1 + g, none⟩) hb1).trans (by simpa using hc1')
                have d2 : wr.cell? ⟨b2, o2 + f, none⟩ = some (.int .i64 (at0 c.t f)) := (hbel.cell (p := ⟨b2, o2 + f, none⟩) hb2).trans (by simpa using hc2)
                have d2' : wr.cell? ⟨b2, o2 + g, none⟩ = some (.int .i64 (at0 c.t g)) := (hbel.cell (p := ⟨b2, o2 + g, none⟩) hb2).trans (by simpa using hc2')
                clear hc5 hc1 hc1' hc2 hc2'
                have hok : okComp c f g ↔ (at0 c.t f = at0 c.s g → c.arr (c.th f g) ∧ at0 c.s (c.th f g) = at0 c.s f ∧ at0 c.t (c.th f g) = at0 c.t g) ∧ (at0 c.t f ≠ at0 c.s g → c.th f g = -1) := Iff.rfl
                have HCO : Hid (b = true → okComp c f g) := fun hh => (bP_iff.1 (HB.out.symm.trans hh)).co f g hlt hlt2
                generalize c.th f g = z at d5 hok
                generalize at0 c.s f = sf at d1 hok
                generalize at0 c.s g = sg at d1' hok
                generalize at0 c.t f = tf at d2 hok
                generalize at0 c.t g = tg at d2' hok
                have HOK := Lib.hid hok; clear hok
                have n1 : (f : Int) < (c.m.length : Int) := by omega
                have n2 : (f : Int) < (c.s.length : Int) := by omega
                have n3 : (g : Int) < (c.s.length : Int) := by omega
                have n4 : (f : Int) < (c.t.length : Int) := by omega
                have n5 : (g : Int) < (c.t.length : Int) := by omega
                have n6 : (0 : Int) ≤ (f : Int) := by omega
                have n7 : (0 : Int) ≤ (g : Int) := by omega
                have hfin : ∀ (h : okComp c f g), ∀ wz, Below w.heap.size w wz → Hid (Bx wz w.heap.size 28 [.int .i64 c.ob, .slice (some ⟨b1, o1, none⟩) c.s.length k1, .slice (some ⟨b2, o2, none⟩) c.t.length k2, .slice x3 c.e.length k3, .slice (some ⟨b4, o4, none⟩) c.m.length k4]) → ∃ q : Nat, q ≤ c.s.length ∧ Value.int .i64 ((g : Int) + 1) = .int .i64 q ∧ Hid (∀ j : Nat, j < q → okComp c f j) ∧ Hid (Bx wz w.heap.size 28 [.int .i64 c.ob, .slice (some ⟨b1, o1, none⟩) c.s.length k1, .slice (some ⟨b2, o2, none⟩) c.t.length k2, .slice x3 c.e.length k3, .slice (some ⟨b4, o4, none⟩) c.m.length k4]) ∧ Below w.heap.size w wz := fun h wz h1 h2 => ⟨g + 1, by omega, by go_num, fun j hj => by
                  by_cases hjg : j = g
                  · subst hjg; exact h
                  · exact hall2.out j (by omega), h2, h1⟩
                have HFIN := Lib.hid hfin; clear hfin
                clear hall hall2
                by_cases q : tf = sg
                · have HOK2 : Hid (okComp c f g ↔ c.arr z ∧ at0 c.s z = sf ∧ at0 c.t z = tg) := by
                    show okComp c f g ↔ _
                    rw [HOK.out]
                    simp [q]
                  clear HOK
                  have t0 : (tf != sg) = false := by simp [q]
                  clear q
                  by_cases z0 : z < 0
                  · have hbf : b = false := by
                      cases hbb : b with
                      | false => rfl
                      | true => have := (HOK2.out.1 (HCO.out hbb)).1.1; omega
                    subst hbf
                    have z0' : decide (z < 0) = true := by simpa using z0
                    go_wp2
                    go_quiet (fail)
                    go_wp2
                    go_quiet (fail)
                    go_wp2
                    go_ret
                    exact ⟨rfl, by first | exact below_quiet (below_quiet hbel) | exact below_quiet hbel⟩
                  have z0' : decide (z < 0) = false := by simpa using z0
                  by_cases z1 : (c.s.length : Int) ≤ z
                  · have hbf : b = false := by
                      cases hbb : b with
                      | false => rfl
                      | true => have := (HOK2.out.1 (HCO.out hbb)).1.2; omega
                    subst hbf
                    have z1' : decide ((c.s.length : Int) ≤ z) = true := by simpa using z1
                    go_wp2
                    go_quiet (fail)
                    go_wp2
                    go_quiet (fail)
                    go_wp2
                    go_ret
                    exact ⟨rfl, by first | exact below_quiet (below_quiet hbel) | exact below_quiet hbel⟩
                  have z1' : decide ((c.s.length : Int) ≤ z) = false := by simpa using z1
                  obtain ⟨_, _, he, _, hcz⟩ := rd_at HS.out (x := z) (by omega) (by omega)
                  simp only [Option.some.injEq, Addr.mk.injEq, and_true] at he
                  obtain ⟨rfl, rfl⟩ := he
                  obtain ⟨_, _, he, _, hcz'⟩ := rd_at HT.out (x := z) (by omega) (by omega)
                  simp only [Option.some.injEq, Addr.mk.injEq, and_true] at he
                  obtain ⟨rfl, rfl⟩ := he
                  have d6 := (hbel.cell (p := ⟨b1, o1 + z.toNat, none⟩) hb1).trans hcz
                  have d7 := (hbel.cell (p := ⟨b2, o2 + z.toNat, none⟩) hb2).trans hcz'
                  clear hcz hcz'
                  have HARR : Hid (c.arr z) := ⟨by omega, by omega⟩
                  have m0 : 0 ≤ z := by omega
                  have m1 : z < (c.s.length : Int) := by omega
                  have m2 : z < (c.t.length : Int) := by omega
                  generalize at0 c.s z = sz at d6 HOK2
                  generalize at0 c.t z = tz at d7 HOK2
                  clear z0 z1
                  by_cases e1 : sz = sf
                  · have t1 : (sz != sf) = false := by simp [e1]
                    by_cases e2 : tz = tg
                    · have HOKK : Hid (okComp c f g) := HOK2.out.2 ⟨HARR.out, e1, e2⟩
                      have t2 : (tz != tg) = false := by simp [e2]
                      clear e1 e2
                      go_wp2
                      go_quiet (fail)
                      go_wp2
                      go_quiet (fail)
                      go_wp2
                      go_roundw
                      case rel =>
                        refine HFIN.out HOKK.out _ ?_ ?_
                        · first | exact below_quiet (below_quiet hbel) | exact below_quiet hbel
                        · exact hbx
                      case measure => simp [intOf]; omega
                    · have hbf : b = false := by
                        cases hbb : b with
                        | false => rfl
                        | true => exact absurd (HOK2.out.1 (HCO.out hbb)).2.2 e2
                      subst hbf
                      have t2 : (tz != tg) = true := by simpa using e2
                      clear e2 e1
                      go_wp2
                      go_quiet (fail)
                      go_wp2
                      go_quiet (fail)
                      go_wp2
                      go_ret
                      exact ⟨rfl, by first | exact below_quiet (below_quiet hbel) | exact below_quiet hbel⟩
                  · have hbf : b = false := by
                      cases hbb : b with
                      | false => rfl
                      | true => exact absurd (HOK2.out.1 (HCO.out hbb)).2.1 e1
                    subst hbf
                    have t1 : (sz != sf) = true := by simpa using e1
                    clear e1
                    go_wp2
                    go_quiet (fail)
                    go_wp2
                    go_quiet (fail)
                    go_wp2
                    go_ret
                    exact ⟨rfl, by first | exact below_quiet (below_quiet hbel) | exact below_quiet hbel⟩
                · have HOK2 : Hid (okComp c f g ↔ z = -1) := by
                    show okComp c f g ↔ _
                    rw [HOK.out]
                    constructor
                    · intro h; exact h.2 q
                    · intro h; exact ⟨fun h' => absurd h' q, fun _ => h⟩
                  clear HOK
                  have t0 : (tf != sg) = true := by simpa using q
                  clear q
                  by_cases hm : z = -1
                  · have HOKK : Hid (okComp c f g) := HOK2.out.2 hm
                    have t1 : (z != -1) = false := by simp [hm]
                    clear hm
                    go_wp2
                    go_quiet (fail)
                    go_wp2
                    go_roundw
                    case rel =>
                      refine HFIN.out HOKK.out _ ?_ ?_
                      · exact below_quiet hbel
                      · exact hbx
                    case measure => simp [intOf]; omega
                  · have hbf : b = false := by
                      cases hbb : b with
                      | false => rfl
                      | true => exact absurd (HOK2.out.1 (HCO.out hbb)) hm
                    subst hbf
                    have t1 : (z != -1) = true := by simpa using hm
                    clear hm
                    go_wp2
                    go_quiet (fail)
                    go_wp2
                    go_ret
                    exact ⟨rfl, below_quiet hbel⟩
              · obtain rfl : g = c.s.length := by omega
                go_wp2
                go_roundw
                case rel =>
                  refine ⟨f + 1, by omega, by go_num, fun j hj => ?_, hbx, hbel⟩
                  by_cases hjf : j = f
                  · subst hjf
                    refine ⟨?_, fun g hg => hall2.out g hg⟩
                    have := HN.out; have := HE2.out; simp [row2] at *; omega
                  · exact hall.out j (by omega)
                case measure => simp [intOf]; omega
          · obtain rfl : b = false := by rw [HB.out]; exact bP_f fun hh => he (by rw [hn, hrl]; exact hh.rl f hml)
            have t1 : (n != c.s.length) = true := by simpa using he
            have t1' : ((n : Int) != (c.s.length : Int)) = true := by rw [bne_iff_ne]; omega
            clear he hn hrl
            go_wp2
            go_ret
            exact ⟨rfl, hbel⟩
        · obtain rfl : f = c.s.length := by omega
          obtain rfl : b = true := by
            rw [HB.out]
            exact bP_t ⟨HL.out, fun j hj => (hall.out j (by have := Q5.out; omega)).1, Q3.out, Q4.out.2, HID.out, fun f g hf hg => (hall.out f hf).2 g hg⟩
          go_wp2
          go_ret
          exact ⟨rfl, hbel⟩

end Go.Proofs.Ytakifeiemcldlaa
