
/- The model's search for the first fault of a shape. -/
import Derived.Test.YtakifeiemcldlaaView
import Derived.Test.YtakifeiemcldlaaCatF
import Derived.Test.YtakifeiemcldlaaArrP
namespace Go.Proofs.Ytakifeiemcldlaa
open Go.RowKit

def Ret4 (W : World) (k f g h : Int) (e : Ending) (w' : World) : Prop := e = .returned (.tuple #[.int .i64 k, .int .i64 f, .int .i64 g, .int .i64 h]) ∧ Below W.heap.size W w'

theorem comp_arr {c : Cat} (hS : ShapeP c) {f g : Int} (f0 : 0 ≤ f) (f1 : f < c.s.length) (g0 : 0 ≤ g) (g1 : g < c.s.length) (h : at0 c.t f = at0 c.s g) : 0 ≤ c.th f g ∧ c.th f g < c.s.length := by
  obtain ⟨a, rfl⟩ := Int.eq_ofNat_of_zero_le f0
  obtain ⟨b, rfl⟩ := Int.eq_ofNat_of_zero_le g0
  have := ((hS.co a b (by omega) (by omega)).1 h).1
  exact ⟨this.1, this.2⟩

set_option maxHeartbeats 4000000 in
set_option maxRecDepth 100000 in
theorem specFault_any (w : World) (v : Value) (c : Cat) (rk rf rg rh : Int) (h : RdC w v c) (hS : ShapeP c) (hP : FaultP c rk rf rg rh) :
    Calls Try.prog 59 #[v] w (Ret4 w rk rf rg rh) := by
  have HV := Lib.hid h
  obtain ⟨x1, x2, x3, x4, k1, k2, k3, k4, rfl, _, _, _, _, l1, l2, l3, l4⟩ := h.lists
  have HSH := Lib.hid hS; have HP := Lib.hid hP
  clear h hS hP
  go_enter Try.func59, Try.ntmps59
  go_wp2
  go_loopw [7] (fun i wr => ∃ k : Nat, k ≤ c.s.length ∧ i = .int .i64 k ∧ Hid (∀ j : Nat, j < k → ¬ badId c j) ∧ Hid (Bx wr w.heap.size 28 [.int .i64 c.ob, .slice x1 c.s.length k1, .slice x2 c.t.length k2, .slice x3 c.e.length k3, .slice x4 c.m.length k4]) ∧ Below w.heap.size w wr) (fun i _ => c.s.length - (intOf i).toNat)
  case atStart => exact ⟨0, Nat.zero_le _, rfl, fun j hj => absurd hj (by omega), bx_new _ _ _, (Below.refl _ _).alloc (Nat.le_refl _) _⟩
  case round =>
    obtain ⟨k, hk, rfl, hall, hbx, hbel⟩ := hrel
    by_cases hlt : k < c.s.length
    · obtain ⟨b1, o1, b2, o2, b3, o3, b4, o4, R, rfl, rfl, rfl, rfl, V0⟩ := HV.out.view' HSH.out (by omega)
      have V := view_below hbel V0; clear V0
      have hap := arrP HSH.out (f := (k : Int)) (by omega) (by omega)
      have he := HSH.out.el; have htl := HSH.out.tl; have hml := HSH.out.ml
      have hi1 := HSH.out.idn (x := at0 c.s k) hap.s0 (by have := hap.s1; omega)
      have hi2 := HSH.out.idn (x := at0 c.t k) hap.t0 (by have := hap.t1; omega)
      have c5 := bx5 hbx.out
      have d1 := V.s k (by omega) (by omega)
      have d2 := V.t k (by omega) (by omega)
      have d3 := V.e (at0 c.s k) hap.s0 (by have := hap.s1; omega)
      have d4 := V.e (at0 c.t k) hap.t0 (by have := hap.t1; omega)
      have d5 := (V.m (at0 c.e (at0 c.s k)) hi1.1 hi1.2.1).2
      have d6 := V.th (at0 c.e (at0 c.s k)) k hi1.1 hi1.2.1 (by omega) (by omega)
      have d7 := (V.m k (by omega) (by omega)).2
      have d8 := V.th k (at0 c.e (at0 c.t k)) (by omega) (by omega) hi2.1 hi2.2.1
      have s0 := hap.s0; have s1 : at0 c.s k < (c.e.length : Int) := hap.s1; have t0 := hap.t0; have t1 : at0 c.t k < (c.e.length : Int) := hap.t1
      have p1 := hi1.1; have p2 : at0 c.e (at0 c.s k) < (c.m.length : Int) := by have := hi1.2.1; omega
      have p3 := hi2.1; have p4 : at0 c.e (at0 c.t k) < (c.s.length : Int) := hi2.2.1
      have m1 : (k : Int) < (c.s.length : Int) := by omega
      have m2 : (k : Int) < (c.t.length : Int) := by omega
      have m3 : (k : Int) < (c.m.length : Int) := by omega
      have m4 : (0 : Int) ≤ (k : Int) := by omega
      have hbad : badId c k ↔ ¬ (c.th (at0 c.e (at0 c.s k)) k = k ∧ c.th k (at0 c.e (at0 c.t k)) = k) := Iff.rfl
      simp only [Int.toNat_natCast] at d1 d2 d6 d7
      clear V hap hi1 hi2 he htl hml
      generalize c.th (at0 c.e (at0 c.s k)) k = r1 at *
      generalize c.th k (at0 c.e (at0 c.t k)) = r2 at *
      generalize at0 c.e (at0 c.s k) = u1 at *
      generalize at0 c.e (at0 c.t k) = u2 at *
      generalize at0 c.s k = sf at *
      generalize at0 c.t k = tf at *
      generalize R u1 = R1 at *
      generalize R (k : Int) = R2 at *
      obtain ⟨a1, a2, a3⟩ := R1
      obtain ⟨a4, a5, a6⟩ := R2
      simp only at d5 d6 d7 d8
      have HBAD := Lib.hid hbad; clear hbad
      have hcase : ((r1 != (k : Int)) = false ∧ (r2 != (k : Int)) = false ∧ ¬ badId c k) ∨ ((r1 != (k : Int)) = false ∧ (r2 != (k : Int)) = true ∧ badId c k) ∨ ((r1 != (k : Int)) = true ∧ badId c k) := by
        by_cases q1 : r1 = k
        · by_cases q2 : r2 = k
          · exact .inl ⟨by simpa using q1, by simpa using q2, fun hb => HBAD.out.1 hb ⟨q1, q2⟩⟩
          · exact .inr (.inl ⟨by simpa using q1, by simpa using q2, HBAD.out.2 fun h => q2 h.2⟩)
        · exact .inr (.inr ⟨by simpa using q1, HBAD.out.2 fun h => q1 h.1⟩)
      rcases hcase with ⟨q1, q2, hgood⟩ | ⟨q1, q2, hb⟩ | ⟨q1, hb⟩
      · have HG := Lib.hid hgood; clear hgood
        go_wp2
        go_quiet (fail)
        go_wp2
        go_roundw
        case rel =>
          refine ⟨k + 1, by omega, by go_num, fun j hj => ?_, ?_, below_quiet hbel⟩
          · by_cases hjk : j = k
            · subst hjk; exact HG.out
            · exact hall.out j (by omega)
          · exact hbx
        case measure => simp [intOf]; omega
      · obtain ⟨rfl, rfl, rfl, rfl⟩ := faultP_id HP.out ⟨hlt, hb, hall.out⟩
        clear hb
        have HBQ := fun n => below_quiet (n := n) hbel
        go_wp2
        go_quiet (fail)
        go_wp2
        exact bodyPost_ret (v := .tuple #[.int .i64 1, .int .i64 k, .int .i64 0, .int .i64 0]) (by simp [results, Try.results59, go_sem]) rfl ⟨rfl, HBQ _⟩
      · obtain ⟨rfl, rfl, rfl, rfl⟩ := faultP_id HP.out ⟨hlt, hb, hall.out⟩
        clear hb
        have HBQ := fun n => below_quiet (n := n) hbel
        go_wp2
        go_quiet (fail)
        go_wp2
        exact bodyPost_ret (v := .tuple #[.int .i64 1, .int .i64 k, .int .i64 0, .int .i64 0]) (by simp [results, Try.results59, go_sem]) rfl ⟨rfl, HBQ _⟩
    · obtain rfl : k = c.s.length := by omega
      have NOID : Hid (noBadId c) := fun j hj => hall.out j hj
      clear hall
      go_wp2
      obtain ⟨wo, rfl⟩ : ∃ wo : World, wo = wr := ⟨_, rfl⟩
      clear hlt hk
      go_loopw [8] (fun i wr => ∃ f : Nat, f ≤ c.s.length ∧ i = .int .i64 f ∧ Hid (∀ f' g' k' : Nat, f' < f → g' < c.s.length → k' < c.s.length → ¬ badAs c f' g' k') ∧ Hid (Bx wr w.heap.size 28 [.int .i64 c.ob, .slice x1 c.s.length k1, .slice x2 c.t.length k2, .slice x3 c.e.length k3, .slice x4 c.m.length k4]) ∧ Below w.heap.size w wr) (fun i _ => c.s.length - (intOf i).toNat)
      case atStart => exact ⟨0, Nat.zero_le _, rfl, fun f' g' k' hf => absurd hf (by omega), hbx, hbel⟩
      case round =>
        clear hbx hbel
        obtain ⟨f, hf, rfl, hall, hbx, hbel⟩ := hrel
        by_cases hlt : f < c.s.length
        · obtain ⟨b1, o1, b2, o2, b3, o3, b4, o4, R, rfl, rfl, rfl, rfl, V0⟩ := HV.out.view' HSH.out (by omega)
          have VV := Lib.hid V0; clear V0
          go_wp2
          obtain ⟨wp, rfl⟩ : ∃ wp : World, wp = wr := ⟨_, rfl⟩
          go_loopw [9] (fun i wr => ∃ g : Nat, g ≤ c.s.length ∧ i = .int .i64 g ∧ Hid (∀ g' k' : Nat, g' < g → k' < c.s.length → ¬ badAs c f g' k') ∧ Hid (Bx wr w.heap.size 28 [.int .i64 c.ob, .slice (some ⟨b1, o1, none⟩) c.s.length k1, .slice (some ⟨b2, o2, none⟩) c.t.length k2, .slice (some ⟨b3, o3, none⟩) c.e.length k3, .slice (some ⟨b4, o4, none⟩) c.m.length k4]) ∧ Below w.heap.size w wr) (fun i _ => c.s.length - (intOf i).toNat)
          case atStart => exact ⟨0, Nat.zero_le _, rfl, fun g' k' hg => absurd hg (by omega), hbx, hbel⟩
          case round =>
            clear hbx hbel
            obtain ⟨g, hg, rfl, hall2, hbx, hbel⟩ := hrel
            by_cases hlt2 : g < c.s.length
            · have V := view_below hbel VV.out
              have c5 := bx5 hbx.out
              have htl := HSH.out.tl; have hml := HSH.out.ml
              have d1 := V.t f (by omega) (by omega)
              have d2 := V.s g (by omega) (by omega)
              simp only [Int.toNat_natCast] at d1 d2
              have m0 : (0 : Int) ≤ (f : Int) := by omega
              have m1 : (f : Int) < (c.t.length : Int) := by omega
              have n0 : (0 : Int) ≤ (g : Int) := by omega
              have n1 : (g : Int) < (c.s.length : Int) := by omega
              have hskip : at0 c.t f ≠ at0 c.s g → ∀ k' : Nat, ¬ badAs c f g k' := fun hne k' hb => hne hb.1
              have hcomp : at0 c.t f = at0 c.s g → 0 ≤ c.th f g ∧ c.th f g < c.s.length := comp_arr HSH.out (by omega) (by omega) (by omega) (by omega)
              have HSK := Lib.hid hskip; have HCO := Lib.hid hcomp; clear hskip hcomp V
              by_cases q : at0 c.t f = at0 c.s g
              · have HQ := Lib.hid q
                have hth := HCO.out q
                have t0 : (at0 c.t f != at0 c.s g) = false := by simp [q]
                clear q
                generalize hz1 : at0 c.t f = tf at d1 t0
                generalize hz2 : at0 c.s g = sg at d2 t0
                have HZ1 := Lib.hid hz1; have HZ2 := Lib.hid hz2; clear hz1 hz2
                have NB := fun n => Lib.hid (below_quiet (n := n) hbel)
                go_wp2
                go_quiet (fail)
                generalize hW : World.drewN _ _ = W
                have hbW : Below w.heap.size w W := by rw [← hW]; exact below_quiet hbel
                have hbxW : Hid (Bx W w.heap.size 28 [.int .i64 c.ob, .slice (some ⟨b1, o1, none⟩) c.s.length k1, .slice (some ⟨b2, o2, none⟩) c.t.length k2, .slice (some ⟨b3, o3, none⟩) c.e.length k3, .slice (some ⟨b4, o4, none⟩) c.m.length k4]) := by rw [← hW]; exact hbx
                clear hW hbel hbx c5 d1 d2 t0 NB
                go_wp2
                go_loopw [10] (fun i wr => ∃ k : Nat, k ≤ c.s.length ∧ i = .int .i64 k ∧ Hid (∀ k' : Nat, k' < k → ¬ badAs c f g k') ∧ Hid (Bx wr w.heap.size 28 [.int .i64 c.ob, .slice (some ⟨b1, o1, none⟩) c.s.length k1, .slice (some ⟨b2, o2, none⟩) c.t.length k2, .slice (some ⟨b3, o3, none⟩) c.e.length k3, .slice (some ⟨b4, o4, none⟩) c.m.length k4]) ∧ Below w.heap.size w wr) (fun i _ => c.s.length - (intOf i).toNat)
                case atStart => exact ⟨0, Nat.zero_le _, rfl, fun k' hk => absurd hk (by omega), hbxW, hbW⟩
                case round =>
                  clear hbxW hbW
                  obtain ⟨k, hk, rfl, hall3, hbx, hbel⟩ := hrel
                  by_cases hlt3 : k < c.s.length
                  · have V := view_below hbel VV.out
                    have c5 := bx5 hbx.out
                    have d1 := V.t g (by omega) (by omega)
                    have d2 := V.s k (by omega) (by omega)
                    have m2 : (f : Int) < (c.m.length : Int) := by omega
                    have n2 : (g : Int) < (c.m.length : Int) := by omega
                    have n3 : (g : Int) < (c.t.length : Int) := by omega
                    have l0 : (0 : Int) ≤ (k : Int) := by omega
                    have l1' : (k : Int) < (c.s.length : Int) := by omega
                    have hbad : badAs c f g k ↔ at0 c.t f = at0 c.s g ∧ at0 c.t g = at0 c.s k ∧ c.th (c.th f g) k ≠ c.th f (c.th g k) := Iff.rfl
                    have HBAD := Lib.hid hbad; clear hbad
                    simp only [Int.toNat_natCast] at d1 d2
                    by_cases q : at0 c.t g = at0 c.s k
                    · have hth2 := comp_arr HSH.out (f := (g : Int)) (g := (k : Int)) (by omega) (by omega) (by omega) (by omega) q
                      have d3 := (V.m f (by omega) (by omega)).2
                      have d4 := V.th f g (by omega) (by omega) (by omega) (by omega)
                      have d5 := (V.m (c.th f g) hth.1 hth.2).2
                      have d6 := V.th (c.th f g) k hth.1 hth.2 (by omega) (by omega)
                      have d7 := (V.m g (by omega) (by omega)).2
                      have d8 := V.th g k (by omega) (by omega) (by omega) (by omega)
                      have d9 := V.th f (c.th g k) (by omega) (by omega) hth2.1 hth2.2
                      simp only [Int.toNat_natCast] at d3 d4 d6 d7 d8
                      have i1 := hth.1; have i2 : c.th f g < (c.m.length : Int) := by have := hth.2; omega
                      have i3 := hth2.1; have i4 : c.th g k < (c.s.length : Int) := hth2.2
                      have t0 : (at0 c.t g == at0 c.s k) = true := by simp [q]
                      have hb2 : badAs c f g k ↔ c.th (c.th f g) k ≠ c.th f (c.th g k) := ⟨fun h => h.2.2, fun h => ⟨HQ.out, q, h⟩⟩
                      clear q V hth2
                      have HTH := Lib.hid hth; clear hth
                      generalize c.th (c.th f g) k = r1 at *
                      generalize c.th f (c.th g k) = r2 at *
                      generalize c.th f g = u1 at *
                      generalize c.th g k = u2 at *
                      generalize at0 c.t g = tg at *
                      generalize at0 c.s k = sk at *
                      generalize R u1 = R1 at *
                      generalize R (f : Int) = R2 at *
                      generalize R (g : Int) = R3 at *
                      obtain ⟨a1, a2, a3⟩ := R1
                      obtain ⟨a4, a5, a6⟩ := R2
                      obtain ⟨a7, a8, a9⟩ := R3
                      simp only at d3 d4 d5 d6 d7 d8 d9
                      have HB2 := Lib.hid hb2; clear hb2
                      by_cases q2 : r1 = r2
                      · have HG : Hid (¬ badAs c f g k) := fun hb => HB2.out.1 hb q2
                        have t2 : (r1 != r2) = false := by simp [q2]
                        clear q2
                        go_wp2
                        go_quiet (fail)
                        go_wp2
                        go_roundw
                        case rel =>
                          refine ⟨k + 1, by omega, by go_num, fun k' hk' => ?_, ?_, below_quiet hbel⟩
                          · by_cases hkk : k' = k
                            · subst hkk; exact HG.out
                            · exact hall3.out k' (by omega)
                          · exact hbx
                        case measure => simp [intOf]; omega
                      · have hb : badAs c f g k := HB2.out.2 q2
                        obtain ⟨rfl, rfl, rfl, rfl⟩ := faultP_as HP.out NOID.out ⟨hlt, hlt2, hlt3, hb, hall.out, hall2.out, hall3.out⟩
                        have t2 : (r1 != r2) = true := by simpa using q2
                        clear q2 hb
                        have HBQ := fun n => below_quiet (n := n) hbel
                        go_wp2
                        go_quiet (fail)
                        go_wp2
                        exact bodyPost_ret (v := .tuple #[.int .i64 2, .int .i64 f, .int .i64 g, .int .i64 k]) (by simp [results, Try.results59, go_sem]) rfl ⟨rfl, HBQ _⟩
                    · have HG : Hid (¬ badAs c f g k) := fun hb => q hb.2.1
                      have t0 : (at0 c.t g == at0 c.s k) = false := by simpa using q
                      clear q V
                      generalize at0 c.t g = tg at *
                      generalize at0 c.s k = sk at *
                      go_wp2
                      go_quiet (fail)
                      go_wp2
                      go_roundw
                      case rel =>
                        refine ⟨k + 1, by omega, by go_num, fun k' hk' => ?_, ?_, below_quiet hbel⟩
                        · by_cases hkk : k' = k
                          · subst hkk; exact HG.out
                          · exact hall3.out k' (by omega)
                        · exact hbx
                      case measure => simp [intOf]; omega
                  · obtain rfl : k = c.s.length := by omega
                    go_wp2
                    go_roundw
                    case rel =>
                      refine ⟨g + 1, by omega, by go_num, fun g' k' hg' hk' => ?_, hbx, hbel⟩
                      by_cases hgg : g' = g
                      · subst hgg; exact hall3.out k' hk'
                      · exact hall2.out g' k' (by omega) hk'
                    case measure => simp [intOf]; omega
              · have HG := Lib.hid (HSK.out q)
                have t0 : (at0 c.t f != at0 c.s g) = true := by simpa using q
                clear q
                generalize at0 c.t f = tf at d1 t0
                generalize at0 c.s g = sg at d2 t0
                go_wp2
                go_quiet (fail)
                go_wp2
                go_roundw
                case rel =>
                  refine ⟨g + 1, by omega, by go_num, fun g' k' hg' hk' => ?_, ?_, below_quiet hbel⟩
                  · by_cases hgg : g' = g
                    · subst hgg; exact HG.out k'
                    · exact hall2.out g' k' (by omega) hk'
                  · exact hbx
                case measure => simp [intOf]; omega
            · obtain rfl : g = c.s.length := by omega
              go_wp2
              go_roundw
              case rel =>
                refine ⟨f + 1, by omega, by go_num, fun f' g' k' hf' hg' hk' => ?_, hbx, hbel⟩
                by_cases hff : f' = f
                · subst hff; exact hall2.out g' k' hg' hk'
                · exact hall.out f' g' k' (by omega) hg' hk'
              case measure => simp [intOf]; omega
        · obtain rfl : f = c.s.length := by omega
          obtain ⟨rfl, rfl, rfl, rfl⟩ := faultP_no HP.out NOID.out (fun f' g' k' a b d => hall.out f' g' k' a b d)
          go_wp2
          exact bodyPost_ret (v := .tuple #[.int .i64 0, .int .i64 0, .int .i64 0, .int .i64 0]) (by simp [results, Try.results59, go_sem]) rfl ⟨rfl, hbel⟩

end Go.Proofs.Ytakifeiemcldlaa
