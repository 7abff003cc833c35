
/- The program's search for the first fault of associativity. -/
import Derived.Test.YtakifeiemcldlaaView
import Derived.Test.YtakifeiemcldlaaCatF
import Derived.Test.YtakifeiemcldlaaArrP
import Derived.Test.YtakifeiemcldlaaSFault
import Derived.Test.YtakifeiemcldlaaFault
namespace Go.Proofs.Ytakifeiemcldlaa
open Go.RowKit

inductive AsP (c : Cat) : Int → Int → Int → Int → Prop
  | asc (f g k : Nat) (h : FirstAs c f g k) : AsP c 2 f g k
  | no (h : noBadAs c) : AsP c 0 0 0 0
theorem asP_asc {c : Cat} {k f g h : Int} (hp : AsP c k f g h) {f' g' k' : Nat} (hm : FirstAs c f' g' k') : k = 2 ∧ f = f' ∧ g = g' ∧ h = k' := by
  cases hp with
  | asc a b d h1 =>
    obtain ⟨rfl, rfl, rfl⟩ := firstAs_unique h1 hm
    exact ⟨rfl, rfl, rfl, rfl⟩
  | no h1 => exact absurd hm.2.2.2.1 (h1 _ _ _ hm.1 hm.2.1 hm.2.2.1)
theorem asP_no {c : Cat} {k f g h : Int} (hp : AsP c k f g h) (h1 : noBadAs c) : k = 0 ∧ f = 0 ∧ g = 0 ∧ h = 0 := by
  cases hp with
  | asc a b d h2 => exact absurd h2.2.2.2.1 (h1 _ _ _ h2.1 h2.2.1 h2.2.2.1)
  | no _ => exact ⟨rfl, rfl, rfl, rfl⟩

set_option maxHeartbeats 8000000 in
set_option maxRecDepth 100000 in
theorem asFault_any (w : World) (v : Value) (c : Cat) (rk rf rg rh : Int) (h : RdC w v c) (hS : ShapeP c) (hP : AsP c rk rf rg rh) :
    Calls Try.prog 91 #[v] w (RetF w rk rf rg rh) := by
  have HV := Lib.hid h
  obtain ⟨x1, x2, x3, x4, k1, k2, k3, k4, rfl, _, _, _, _, l1, l2, l3, l4⟩ := h.lists
  have HSH := Lib.hid hS; have HP := Lib.hid hP
  clear h hS hP
  go_enter Try.func91, Try.ntmps91
  go_wp2_with fail
  generalize hW : World.alloc _ _ = W
  have A0 : Bx W w.heap.size 28 [.int .i64 c.ob, .slice x1 c.s.length k1, .slice x2 c.t.length k2, .slice x3 c.e.length k3, .slice x4 c.m.length k4] := by rw [← hW]; exact bx_alloc (bx_new _ _ _) _
  have A1 : Bx W (w.heap.size + 1) 64 [.int .i64 0, .int .i64 0, .int .i64 0, .int .i64 0] := by rw [← hW]; exact bx_at (bx_new _ _ _) (by simp)
  have hb : Below w.heap.size w W := by rw [← hW]; exact ((Below.refl _ _).alloc (Nat.le_refl _) _).alloc (by simp) _
  clear hW
  refine (arrows_any _ _ c (rdC_below hb HV.out)).mono ?_; rintro e w1 ⟨rfl, hn1⟩
  have X0 := Lib.hid (bx_below hn1 A0); have X1 := Lib.hid (bx_below hn1 A1)
  have hb1 := hb.trans (hn1.mono hb.size)
  clear hb hn1 A0 A1
  go_wp2
  go_loopw [8] (fun i wr => ∃ f : Nat, f ≤ c.s.length ∧ i = .int .i64 f ∧ Hid (∀ f' g' k' : Nat, f' < f → g' < c.s.length → k' < c.s.length → ¬ badAs c f' g' k') ∧ Hid (Bx wr w.heap.size 28 [.int .i64 c.ob, .slice x1 c.s.length k1, .slice x2 c.t.length k2, .slice x3 c.e.length k3, .slice x4 c.m.length k4]) ∧ Hid (Bx wr (w.heap.size + 1) 64 [.int .i64 0, .int .i64 0, .int .i64 0, .int .i64 0]) ∧ Below w.heap.size w wr) (fun i _ => c.s.length - (intOf i).toNat)
  case atStart => exact ⟨0, Nat.zero_le _, rfl, fun f' g' k' hf => absurd hf (by omega), X0, X1, hb1⟩
  case round =>
    clear X0 X1 hb1
    obtain ⟨f, hf, rfl, hall, hbx, hbr, hbel⟩ := hrel
    by_cases hlt : f < c.s.length
    · obtain ⟨b1, o1, b2, o2, b3, o3, b4, o4, R, rfl, rfl, rfl, rfl, V0⟩ := HV.out.view' HSH.out (by omega)
      have VV := Lib.hid V0; clear V0
      have c5 := bx5 hbx.out
      go_wp2_with fail
      refine (arrows_any _ _ c (rdC_below hbel HV.out)).mono ?_; rintro e w2 ⟨rfl, hn2⟩
      have X0 := Lib.hid (bx_below hn2 hbx.out); have X1 := Lib.hid (bx_below hn2 hbr.out)
      have hb2 := hbel.trans (hn2.mono hbel.size)
      clear hn2 hbx hbr hbel c5
      go_wp2
      obtain ⟨wp, rfl⟩ : ∃ wp : World, wp = w2 := ⟨_, rfl⟩
      go_loopw [13] (fun i wr => ∃ g : Nat, g ≤ c.s.length ∧ i = .int .i64 g ∧ Hid (∀ g' k' : Nat, g' < g → k' < c.s.length → ¬ badAs c f g' k') ∧ Hid (Bx wr w.heap.size 28 [.int .i64 c.ob, .slice (some ⟨b1, o1, none⟩) c.s.length k1, .slice (some ⟨b2, o2, none⟩) c.t.length k2, .slice (some ⟨b3, o3, none⟩) c.e.length k3, .slice (some ⟨b4, o4, none⟩) c.m.length k4]) ∧ Hid (Bx wr (w.heap.size + 1) 64 [.int .i64 0, .int .i64 0, .int .i64 0, .int .i64 0]) ∧ Below w.heap.size w wr) (fun i _ => c.s.length - (intOf i).toNat)
      case atStart => exact ⟨0, Nat.zero_le _, rfl, fun g' k' hg => absurd hg (by omega), X0, X1, hb2⟩
      case round =>
        clear X0 X1 hb2
        obtain ⟨g, hg, rfl, hall2, hbx, hbr, hbel⟩ := hrel
        by_cases hlt2 : g < c.s.length
        · have V := view_below hbel VV.out
          have c5 := bx5 hbx.out
          have htl1 := Nat.le_of_eq HSH.out.tl; have htl2 := Nat.le_of_eq HSH.out.tl.symm; have hml2 := Nat.le_of_eq HSH.out.ml.symm
          have d1 := V.t f (by omega) (by omega)
          have d2 := V.s g (by omega) (by omega)
          simp only [Int.toNat_natCast] at d1 d2
          have m0 : (0 : Int) ≤ (f : Int) := by omega
          have m1 : (f : Int) < (c.t.length : Int) := by omega
          have n0 : (0 : Int) ≤ (g : Int) := by omega
          have n1 : (g : Int) < (c.s.length : Int) := by omega
          have hskip : at0 c.t f ≠ at0 c.s g → ∀ k' : Nat, ¬ badAs c f g k' := fun hne k' hb => hne hb.1
          have HSK := Lib.hid hskip; clear hskip V
          by_cases q : at0 c.t f = at0 c.s g
          · have HQ := Lib.hid q
            have hth := comp_arr HSH.out (f := (f : Int)) (g := (g : Int)) (by omega) (by omega) (by omega) (by omega) q
            have HTH := Lib.hid hth; clear hth
            have t0 : (at0 c.t f != at0 c.s g) = false := by simp [q]
            clear q
            generalize hz1 : at0 c.t f = tf at d1 t0
            generalize hz2 : at0 c.s g = sg at d2 t0
            have HZ1 := Lib.hid hz1; have HZ2 := Lib.hid hz2; clear hz1 hz2
            go_wp2
            go_quiet (fail)
            go_wp2_with fail
            generalize hW : World.drewN _ _ = W2
            have hbW : Below w.heap.size w W2 := by rw [← hW]; exact below_quiet hbel
            have A0 : Hid (Bx W2 w.heap.size 28 [.int .i64 c.ob, .slice (some ⟨b1, o1, none⟩) c.s.length k1, .slice (some ⟨b2, o2, none⟩) c.t.length k2, .slice (some ⟨b3, o3, none⟩) c.e.length k3, .slice (some ⟨b4, o4, none⟩) c.m.length k4]) := by rw [← hW]; exact hbx
            have A1 : Hid (Bx W2 (w.heap.size + 1) 64 [.int .i64 0, .int .i64 0, .int .i64 0, .int .i64 0]) := by rw [← hW]; exact hbr
            clear hW hbel hbx hbr c5 d1 d2 t0
            refine (arrows_any _ _ c (rdC_below hbW HV.out)).mono ?_; rintro e w3 ⟨rfl, hn3⟩
            have X0 := Lib.hid (bx_below hn3 A0.out); have X1 := Lib.hid (bx_below hn3 A1.out)
            have hb3 := hbW.trans (hn3.mono hbW.size)
            clear hn3 A0 A1 hbW
            go_wp2
            obtain ⟨wq, rfl⟩ : ∃ wq : World, wq = w3 := ⟨_, rfl⟩
            go_loopw [29] (fun i wr => ∃ k : Nat, k ≤ c.s.length ∧ i = .int .i64 k ∧ Hid (∀ k' : Nat, k' < k → ¬ badAs c f g k') ∧ Hid (Bx wr w.heap.size 28 [.int .i64 c.ob, .slice (some ⟨b1, o1, none⟩) c.s.length k1, .slice (some ⟨b2, o2, none⟩) c.t.length k2, .slice (some ⟨b3, o3, none⟩) c.e.length k3, .slice (some ⟨b4, o4, none⟩) c.m.length k4]) ∧ Hid (Bx wr (w.heap.size + 1) 64 [.int .i64 0, .int .i64 0, .int .i64 0, .int .i64 0]) ∧ Below w.heap.size w wr) (fun i _ => c.s.length - (intOf i).toNat)
            case atStart => exact ⟨0, Nat.zero_le _, rfl, fun k' hk => absurd hk (by omega), X0, X1, hb3⟩
            case round =>
              clear X0 X1 hb3
              obtain ⟨k, hk, rfl, hall3, hbx, hbr, hbel⟩ := hrel
              by_cases hlt3 : k < c.s.length
              · have V := view_below hbel VV.out
                have c5 := bx5 hbx.out
                have d1 := V.t g (by omega) (by omega)
                have d2 := V.s k (by omega) (by omega)
                have VL : Hid (b1 < wr.heap.size ∧ b2 < wr.heap.size) := ⟨V.l1, V.l2⟩
                have n3 : (g : Int) < (c.t.length : Int) := by omega
                have l0 : (0 : Int) ≤ (k : Int) := by omega
                have l1' : (k : Int) < (c.s.length : Int) := by omega
                simp only [Int.toNat_natCast] at d1 d2
                clear V
                by_cases q : at0 c.t g = at0 c.s k
                · have hth2 := comp_arr HSH.out (f := (g : Int)) (g := (k : Int)) (by omega) (by omega) (by omega) (by omega) q
                  have hapf := arrP HSH.out (f := (f : Int)) (by omega) (by omega)
                  have hapg := arrP HSH.out (f := (g : Int)) (by omega) (by omega)
                  have hapu := arrP HSH.out HTH.out.1 HTH.out.2
                  have T48 : Hid (∀ w v, RdC w v c → Calls Try.prog 65 #[v, .int .i64 (f : Int), .int .i64 (g : Int)] w (RetI w (c.th f g))) :=
                    fun w v hv => then_any w v c _ _ hv (by omega) hapf.fm (by omega) (by rw [hapf.row]; omega)
                  have T50 : Hid (∀ w v, RdC w v c → Calls Try.prog 65 #[v, .int .i64 (c.th f g), .int .i64 (k : Int)] w (RetI w (c.th (c.th f g) k))) :=
                    fun w v hv => then_any w v c _ _ hv HTH.out.1 hapu.fm (by omega) (by rw [hapu.row]; omega)
                  have T56 : Hid (∀ w v, RdC w v c → Calls Try.prog 65 #[v, .int .i64 (g : Int), .int .i64 (k : Int)] w (RetI w (c.th g k))) :=
                    fun w v hv => then_any w v c _ _ hv (by omega) hapg.fm (by omega) (by rw [hapg.row]; omega)
                  have T57 : Hid (∀ w v, RdC w v c → Calls Try.prog 65 #[v, .int .i64 (f : Int), .int .i64 (c.th g k)] w (RetI w (c.th f (c.th g k)))) :=
                    fun w v hv => then_any w v c _ _ hv (by omega) hapf.fm hth2.1 (by rw [hapf.row]; exact hth2.2)
                  have t0 : (at0 c.t g == at0 c.s k) = true := by simp [q]
                  have hb2 : badAs c f g k ↔ c.th (c.th f g) k ≠ c.th f (c.th g k) := ⟨fun h => h.2.2, fun h => ⟨HQ.out, q, h⟩⟩
                  clear q hth2 hapf hapg hapu
                  generalize c.th (c.th f g) k = r1 at *
                  generalize c.th f (c.th g k) = r2 at *
                  generalize c.th f g = u1 at *
                  generalize c.th g k = u2 at *
                  generalize at0 c.t g = tg at *
                  generalize at0 c.s k = sk at *
                  have HB2 := Lib.hid hb2; clear hb2
                  by_cases q2 : r1 = r2
                  · have HG : Hid (¬ badAs c f g k) := fun hb => HB2.out.1 hb q2
                    have t2 : (r1 != r2) = false := by simp [q2]
                    clear q2
                    go_wp2
                    go_region_held3 (fun w' => (w'.cell? ⟨w.heap.size, 0, none⟩ = some (.int .i64 c.ob) ∧ w'.cell? ⟨w.heap.size, 1, none⟩ = some (.slice (some ⟨b1, o1, none⟩) c.s.length k1) ∧ w'.cell? ⟨w.heap.size, 2, none⟩ = some (.slice (some ⟨b2, o2, none⟩) c.t.length k2) ∧ w'.cell? ⟨w.heap.size, 3, none⟩ = some (.slice (some ⟨b3, o3, none⟩) c.e.length k3) ∧ w'.cell? ⟨w.heap.size, 4, none⟩ = some (.slice (some ⟨b4, o4, none⟩) c.m.length k4)) ∧ w'.cell? ⟨b2, o2 + g, none⟩ = some (.int .i64 tg) ∧ w'.cell? ⟨b1, o1 + k, none⟩ = some (.int .i64 sk))
                          (first | exact ⟨c5, d1, d2⟩ | exact ⟨bx5 (bx_below mq4 hbx.out), (mq4.cell (p := ⟨b2, _, none⟩) VL.out.2).trans d1, (mq4.cell (p := ⟨b1, _, none⟩) VL.out.1).trans d2⟩ | exact ⟨bx5 (bx_below mq3 hbx.out), (mq3.cell (p := ⟨b2, _, none⟩) VL.out.2).trans d1, (mq3.cell (p := ⟨b1, _, none⟩) VL.out.1).trans d2⟩ | exact ⟨bx5 (bx_below mq2 hbx.out), (mq2.cell (p := ⟨b2, _, none⟩) VL.out.2).trans d1, (mq2.cell (p := ⟨b1, _, none⟩) VL.out.1).trans d2⟩ | exact ⟨bx5 (bx_below mq1 hbx.out), (mq1.cell (p := ⟨b2, _, none⟩) VL.out.2).trans d1, (mq1.cell (p := ⟨b1, _, none⟩) VL.out.1).trans d2⟩ | go_keep)
                          (first
                            | ((with_reducible refine (T48.out _ _ (rdC_below hbel.drew HV.out)).mono ?_); rintro e q1 ⟨rfl, hq1⟩; have mq1 : Below wr.heap.size wr q1 := ⟨hq1.os, hq1.tape, hq1.output, hq1.size, hq1.block⟩)
                            | ((with_reducible refine (T50.out _ _ (rdC_below hbel.drew HV.out)).mono ?_); rintro e q1 ⟨rfl, hq1⟩; have mq1 : Below wr.heap.size wr q1 := ⟨hq1.os, hq1.tape, hq1.output, hq1.size, hq1.block⟩)
                            | ((with_reducible refine (T56.out _ _ (rdC_below hbel.drew HV.out)).mono ?_); rintro e q1 ⟨rfl, hq1⟩; have mq1 : Below wr.heap.size wr q1 := ⟨hq1.os, hq1.tape, hq1.output, hq1.size, hq1.block⟩)
                            | ((with_reducible refine (T57.out _ _ (rdC_below hbel.drew HV.out)).mono ?_); rintro e q1 ⟨rfl, hq1⟩; have mq1 : Below wr.heap.size wr q1 := ⟨hq1.os, hq1.tape, hq1.output, hq1.size, hq1.block⟩)
                            | ((with_reducible refine (T48.out _ _ (rdC_below (hbel.trans (mq1.mono hbel.size)) HV.out)).mono ?_); rintro e q2 ⟨rfl, hq2⟩; have mq2 : Below wr.heap.size wr q2 := mq1.trans (hq2.mono mq1.size))
                            | ((with_reducible refine (T50.out _ _ (rdC_below (hbel.trans (mq1.mono hbel.size)) HV.out)).mono ?_); rintro e q2 ⟨rfl, hq2⟩; have mq2 : Below wr.heap.size wr q2 := mq1.trans (hq2.mono mq1.size))
                            | ((with_reducible refine (T56.out _ _ (rdC_below (hbel.trans (mq1.mono hbel.size)) HV.out)).mono ?_); rintro e q2 ⟨rfl, hq2⟩; have mq2 : Below wr.heap.size wr q2 := mq1.trans (hq2.mono mq1.size))
                            | ((with_reducible refine (T57.out _ _ (rdC_below (hbel.trans (mq1.mono hbel.size)) HV.out)).mono ?_); rintro e q2 ⟨rfl, hq2⟩; have mq2 : Below wr.heap.size wr q2 := mq1.trans (hq2.mono mq1.size))
                            | ((with_reducible refine (T48.out _ _ (rdC_below (hbel.trans (mq2.mono hbel.size)) HV.out)).mono ?_); rintro e q3 ⟨rfl, hq3⟩; have mq3 : Below wr.heap.size wr q3 := mq2.trans (hq3.mono mq2.size))
                            | ((with_reducible refine (T50.out _ _ (rdC_below (hbel.trans (mq2.mono hbel.size)) HV.out)).mono ?_); rintro e q3 ⟨rfl, hq3⟩; have mq3 : Below wr.heap.size wr q3 := mq2.trans (hq3.mono mq2.size))
                            | ((with_reducible refine (T56.out _ _ (rdC_below (hbel.trans (mq2.mono hbel.size)) HV.out)).mono ?_); rintro e q3 ⟨rfl, hq3⟩; have mq3 : Below wr.heap.size wr q3 := mq2.trans (hq3.mono mq2.size))
                            | ((with_reducible refine (T57.out _ _ (rdC_below (hbel.trans (mq2.mono hbel.size)) HV.out)).mono ?_); rintro e q3 ⟨rfl, hq3⟩; have mq3 : Below wr.heap.size wr q3 := mq2.trans (hq3.mono mq2.size))
                            | ((with_reducible refine (T48.out _ _ (rdC_below (hbel.trans (mq3.mono hbel.size)) HV.out)).mono ?_); rintro e q4 ⟨rfl, hq4⟩; have mq4 : Below wr.heap.size wr q4 := mq3.trans (hq4.mono mq3.size))
                            | ((with_reducible refine (T50.out _ _ (rdC_below (hbel.trans (mq3.mono hbel.size)) HV.out)).mono ?_); rintro e q4 ⟨rfl, hq4⟩; have mq4 : Below wr.heap.size wr q4 := mq3.trans (hq4.mono mq3.size))
                            | ((with_reducible refine (T56.out _ _ (rdC_below (hbel.trans (mq3.mono hbel.size)) HV.out)).mono ?_); rintro e q4 ⟨rfl, hq4⟩; have mq4 : Below wr.heap.size wr q4 := mq3.trans (hq4.mono mq3.size))
                            | ((with_reducible refine (T57.out _ _ (rdC_below (hbel.trans (mq3.mono hbel.size)) HV.out)).mono ?_); rintro e q4 ⟨rfl, hq4⟩; have mq4 : Below wr.heap.size wr q4 := mq3.trans (hq4.mono mq3.size)))
                    all_goals
                      have Y0 := Lib.hid (bx_below mq4 hbx.out); have Y1 := Lib.hid (bx_below mq4 hbr.out)
                      have hb4 := hbel.trans (mq4.mono hbel.size)
                      go_wp2
                      go_roundw
                      case rel =>
                        refine ⟨k + 1, by omega, by go_num, fun k' hk' => ?_, Y0, Y1, by first | exact hb4 | exact hb4.drew⟩
                        by_cases hkk : k' = k
                        · subst hkk; exact HG.out
                        · exact hall3.out k' (by omega)
                      case measure => simp [intOf]; omega
                  · have hb : badAs c f g k := HB2.out.2 q2
                    obtain ⟨rfl, rfl, rfl, rfl⟩ := asP_asc HP.out ⟨hlt, hlt2, hlt3, hb, hall.out, hall2.out, hall3.out⟩
                    have t2 : (r1 != r2) = true := by simpa using q2
                    clear q2 hb
                    go_wp2
                    go_region_held3 (fun w' => (w'.cell? ⟨w.heap.size, 0, none⟩ = some (.int .i64 c.ob) ∧ w'.cell? ⟨w.heap.size, 1, none⟩ = some (.slice (some ⟨b1, o1, none⟩) c.s.length k1) ∧ w'.cell? ⟨w.heap.size, 2, none⟩ = some (.slice (some ⟨b2, o2, none⟩) c.t.length k2) ∧ w'.cell? ⟨w.heap.size, 3, none⟩ = some (.slice (some ⟨b3, o3, none⟩) c.e.length k3) ∧ w'.cell? ⟨w.heap.size, 4, none⟩ = some (.slice (some ⟨b4, o4, none⟩) c.m.length k4)) ∧ w'.cell? ⟨b2, o2 + g, none⟩ = some (.int .i64 tg) ∧ w'.cell? ⟨b1, o1 + k, none⟩ = some (.int .i64 sk))
                          (first | exact ⟨c5, d1, d2⟩ | exact ⟨bx5 (bx_below mq4 hbx.out), (mq4.cell (p := ⟨b2, _, none⟩) VL.out.2).trans d1, (mq4.cell (p := ⟨b1, _, none⟩) VL.out.1).trans d2⟩ | exact ⟨bx5 (bx_below mq3 hbx.out), (mq3.cell (p := ⟨b2, _, none⟩) VL.out.2).trans d1, (mq3.cell (p := ⟨b1, _, none⟩) VL.out.1).trans d2⟩ | exact ⟨bx5 (bx_below mq2 hbx.out), (mq2.cell (p := ⟨b2, _, none⟩) VL.out.2).trans d1, (mq2.cell (p := ⟨b1, _, none⟩) VL.out.1).trans d2⟩ | exact ⟨bx5 (bx_below mq1 hbx.out), (mq1.cell (p := ⟨b2, _, none⟩) VL.out.2).trans d1, (mq1.cell (p := ⟨b1, _, none⟩) VL.out.1).trans d2⟩ | go_keep)
                          (first
                            | ((with_reducible refine (T48.out _ _ (rdC_below hbel.drew HV.out)).mono ?_); rintro e q1 ⟨rfl, hq1⟩; have mq1 : Below wr.heap.size wr q1 := ⟨hq1.os, hq1.tape, hq1.output, hq1.size, hq1.block⟩)
                            | ((with_reducible refine (T50.out _ _ (rdC_below hbel.drew HV.out)).mono ?_); rintro e q1 ⟨rfl, hq1⟩; have mq1 : Below wr.heap.size wr q1 := ⟨hq1.os, hq1.tape, hq1.output, hq1.size, hq1.block⟩)
                            | ((with_reducible refine (T56.out _ _ (rdC_below hbel.drew HV.out)).mono ?_); rintro e q1 ⟨rfl, hq1⟩; have mq1 : Below wr.heap.size wr q1 := ⟨hq1.os, hq1.tape, hq1.output, hq1.size, hq1.block⟩)
                            | ((with_reducible refine (T57.out _ _ (rdC_below hbel.drew HV.out)).mono ?_); rintro e q1 ⟨rfl, hq1⟩; have mq1 : Below wr.heap.size wr q1 := ⟨hq1.os, hq1.tape, hq1.output, hq1.size, hq1.block⟩)
                            | ((with_reducible refine (T48.out _ _ (rdC_below (hbel.trans (mq1.mono hbel.size)) HV.out)).mono ?_); rintro e q2 ⟨rfl, hq2⟩; have mq2 : Below wr.heap.size wr q2 := mq1.trans (hq2.mono mq1.size))
                            | ((with_reducible refine (T50.out _ _ (rdC_below (hbel.trans (mq1.mono hbel.size)) HV.out)).mono ?_); rintro e q2 ⟨rfl, hq2⟩; have mq2 : Below wr.heap.size wr q2 := mq1.trans (hq2.mono mq1.size))
                            | ((with_reducible refine (T56.out _ _ (rdC_below (hbel.trans (mq1.mono hbel.size)) HV.out)).mono ?_); rintro e q2 ⟨rfl, hq2⟩; have mq2 : Below wr.heap.size wr q2 := mq1.trans (hq2.mono mq1.size))
                            | ((with_reducible refine (T57.out _ _ (rdC_below (hbel.trans (mq1.mono hbel.size)) HV.out)).mono ?_); rintro e q2 ⟨rfl, hq2⟩; have mq2 : Below wr.heap.size wr q2 := mq1.trans (hq2.mono mq1.size))
                            | ((with_reducible refine (T48.out _ _ (rdC_below (hbel.trans (mq2.mono hbel.size)) HV.out)).mono ?_); rintro e q3 ⟨rfl, hq3⟩; have mq3 : Below wr.heap.size wr q3 := mq2.trans (hq3.mono mq2.size))
                            | ((with_reducible refine (T50.out _ _ (rdC_below (hbel.trans (mq2.mono hbel.size)) HV.out)).mono ?_); rintro e q3 ⟨rfl, hq3⟩; have mq3 : Below wr.heap.size wr q3 := mq2.trans (hq3.mono mq2.size))
                            | ((with_reducible refine (T56.out _ _ (rdC_below (hbel.trans (mq2.mono hbel.size)) HV.out)).mono ?_); rintro e q3 ⟨rfl, hq3⟩; have mq3 : Below wr.heap.size wr q3 := mq2.trans (hq3.mono mq2.size))
                            | ((with_reducible refine (T57.out _ _ (rdC_below (hbel.trans (mq2.mono hbel.size)) HV.out)).mono ?_); rintro e q3 ⟨rfl, hq3⟩; have mq3 : Below wr.heap.size wr q3 := mq2.trans (hq3.mono mq2.size))
                            | ((with_reducible refine (T48.out _ _ (rdC_below (hbel.trans (mq3.mono hbel.size)) HV.out)).mono ?_); rintro e q4 ⟨rfl, hq4⟩; have mq4 : Below wr.heap.size wr q4 := mq3.trans (hq4.mono mq3.size))
                            | ((with_reducible refine (T50.out _ _ (rdC_below (hbel.trans (mq3.mono hbel.size)) HV.out)).mono ?_); rintro e q4 ⟨rfl, hq4⟩; have mq4 : Below wr.heap.size wr q4 := mq3.trans (hq4.mono mq3.size))
                            | ((with_reducible refine (T56.out _ _ (rdC_below (hbel.trans (mq3.mono hbel.size)) HV.out)).mono ?_); rintro e q4 ⟨rfl, hq4⟩; have mq4 : Below wr.heap.size wr q4 := mq3.trans (hq4.mono mq3.size))
                            | ((with_reducible refine (T57.out _ _ (rdC_below (hbel.trans (mq3.mono hbel.size)) HV.out)).mono ?_); rintro e q4 ⟨rfl, hq4⟩; have mq4 : Below wr.heap.size wr q4 := mq3.trans (hq4.mono mq3.size)))
                    all_goals
                      have F1 := bx_below mq4 hbr.out
                      have f4 := bx4 F1
                      have g0 := bx_frozen F1 0
                      have g1 := bx_frozen F1 1
                      have g2 := bx_frozen F1 2
                      have g3 := bx_frozen F1 3
                      have Y := bx_set (bx_set (bx_set (bx_set F1 0 (.int .i64 2)) 1 (.int .i64 f)) 2 (.int .i64 g)) 3 (.int .i64 k)
                      have hbF := ((((hbel.trans (mq4.mono hbel.size)).setCell (p := ⟨w.heap.size + 1, 0, none⟩) (by simp) (.int .i64 2)).setCell (p := ⟨w.heap.size + 1, 1, none⟩) (by simp) (.int .i64 f)).setCell (p := ⟨w.heap.size + 1, 2, none⟩) (by simp) (.int .i64 g)).setCell (p := ⟨w.heap.size + 1, 3, none⟩) (by simp) (.int .i64 k)
                      have YY := Lib.hid Y; have HBF := Lib.hid hbF; clear Y hbF F1
                      go_wp2
                      generalize hF : World.setCell _ _ _ = F
                      have Y := YY.out; have hbF := HBF.out
                      first | rw [hF] at Y hbF | skip
                      have y4 := bx4 Y
                      exact bodyPost_ret (v := .agg #[.int .i64 2, .int .i64 f, .int .i64 g, .int .i64 k]) (by simp [results, Try.results91, go_sem, y4]) rfl ⟨rfl, hbF⟩
                · have HG : Hid (¬ badAs c f g k) := fun hb => q hb.2.1
                  have t0 : (at0 c.t g == at0 c.s k) = false := by simpa using q
                  clear q
                  generalize at0 c.t g = tg at *
                  generalize at0 c.s k = sk at *
                  go_wp2
                  go_quiet (fail)
                  go_wp2
                  go_roundw
                  case rel =>
                    refine ⟨k + 1, by omega, by go_num, fun k' hk' => ?_, ?_, ?_, below_quiet hbel⟩
                    · by_cases hkk : k' = k
                      · subst hkk; exact HG.out
                      · exact hall3.out k' (by omega)
                    · exact hbx
                    · exact hbr
                  case measure => simp [intOf]; omega
              · obtain rfl : k = c.s.length := by omega
                go_wp2
                go_roundw
                case rel =>
                  refine ⟨g + 1, by omega, by go_num, fun g' k' hg' hk' => ?_, hbx, hbr, hbel⟩
                  by_cases hgg : g' = g
                  · subst hgg; exact hall3.out k' hk'
                  · exact hall2.out g' k' (by omega) hk'
                case measure => simp [intOf]; omega
          · have HG := Lib.hid (HSK.out q)
            have t0 : (at0 c.t f != at0 c.s g) = true := by simpa using q
            clear q
            generalize at0 c.t f = tf at d1 t0
            generalize at0 c.s g = sg at d2 t0
            go_wp2
            go_quiet (fail)
            go_wp2
            go_roundw
            case rel =>
              refine ⟨g + 1, by omega, by go_num, fun g' k' hg' hk' => ?_, ?_, ?_, below_quiet hbel⟩
              · by_cases hgg : g' = g
                · subst hgg; exact HG.out k'
                · exact hall2.out g' k' (by omega) hk'
              · exact hbx
              · exact hbr
            case measure => simp [intOf]; omega
        · obtain rfl : g = c.s.length := by omega
          go_wp2
          go_roundw
          case rel =>
            refine ⟨f + 1, by omega, by go_num, fun f' g' k' hf' hg' hk' => ?_, hbx, hbr, hbel⟩
            by_cases hff : f' = f
            · subst hff; exact hall2.out g' k' hg' hk'
            · exact hall.out f' g' k' (by omega) hg' hk'
          case measure => simp [intOf]; omega
    · obtain rfl : f = c.s.length := by omega
      obtain ⟨rfl, rfl, rfl, rfl⟩ := asP_no HP.out (fun f' g' k' a b d => hall.out f' g' k' a b d)
      have f4 := bx4 hbr.out
      have g0 := bx_frozen hbr.out 0
      have g1 := bx_frozen hbr.out 1
      have g2 := bx_frozen hbr.out 2
      have g3 := bx_frozen hbr.out 3
      have Y := bx_set (bx_set (bx_set (bx_set hbr.out 0 (.int .i64 0)) 1 (.int .i64 0)) 2 (.int .i64 0)) 3 (.int .i64 0)
      have hbF := (((hbel.setCell (p := ⟨w.heap.size + 1, 0, none⟩) (by simp) (.int .i64 0)).setCell (p := ⟨w.heap.size + 1, 1, none⟩) (by simp) (.int .i64 0)).setCell (p := ⟨w.heap.size + 1, 2, none⟩) (by simp) (.int .i64 0)).setCell (p := ⟨w.heap.size + 1, 3, none⟩) (by simp) (.int .i64 0)
      have YY := Lib.hid Y; have HBF := Lib.hid hbF; clear Y hbF
      go_wp2
      generalize hF : World.setCell _ _ _ = F
      have Y := YY.out; have hbF := HBF.out
      rw [hF] at Y hbF
      have y4 := bx4 Y
      exact bodyPost_ret (v := .agg #[.int .i64 0, .int .i64 0, .int .i64 0, .int .i64 0]) (by simp [results, Try.results91, go_sem, y4]) rfl ⟨rfl, hbF⟩

end Go.Proofs.Ytakifeiemcldlaa
