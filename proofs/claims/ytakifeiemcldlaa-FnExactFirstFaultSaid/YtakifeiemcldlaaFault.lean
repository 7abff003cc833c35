
/- The program's search for the first fault of a shape. -/
import Derived.Test.YtakifeiemcldlaaHasC
import Derived.Test.YtakifeiemcldlaaArrP
namespace Go.Proofs.Ytakifeiemcldlaa
open Go.RowKit

set_option maxHeartbeats 2000000 in
set_option maxRecDepth 100000 in
theorem units_any (w : World) (v : Value) (c : Cat) (f : Int) (h : RdC w v c) (hf : ArrP c f) :
    Calls Try.prog 94 #[v, .int .i64 f] w (RetE w (at0 c.e (at0 c.s f)) (at0 c.e (at0 c.t f))) := by
  obtain ⟨x1, x2, x3, x4, k1, k2, k3, k4, rfl, hs, ht, he, _, l1, l2, l3, l4⟩ := h.lists
  obtain ⟨f0, fs, ft, fm, s0, s1, t0, t1, row⟩ := hf
  obtain ⟨b1, o1, rfl, hb1, hc1⟩ := rd_at hs f0 fs
  obtain ⟨b2, o2, rfl, hb2, hc2⟩ := rd_at ht f0 ft
  obtain ⟨b3, o3, rfl, hb3, hc3⟩ := rd_at he s0 s1
  obtain ⟨_, _, hq, _, hc4⟩ := rd_at he t0 t1
  simp only [Option.some.injEq, Addr.mk.injEq, and_true] at hq
  obtain ⟨rfl, rfl⟩ := hq
  clear h hs ht he row
  generalize at0 c.s f = y at *
  generalize at0 c.t f = z at *
  generalize at0 c.e y = ey at *
  generalize at0 c.e z = ez at *
  go_enter Try.func94, Try.ntmps94
  go_wp2
  generalize hW : World.alloc _ _ = W
  have X0 : Bx W w.heap.size 28 [.int .i64 c.ob, .slice (some ⟨b1, o1, none⟩) c.s.length k1, .slice (some ⟨b2, o2, none⟩) c.t.length k2, .slice (some ⟨b3, o3, none⟩) c.e.length k3, .slice x4 c.m.length k4] := by rw [← hW]; exact bx_alloc (bx_new _ _ _) _
  have X1 : Bx W (w.heap.size + 1) 89 [.int .i64 0, .int .i64 0] := by rw [← hW]; exact bx_at (bx_new _ _ _) (by simp)
  have hb : Below w.heap.size w W := by rw [← hW]; exact ((Below.refl _ _).alloc (Nat.le_refl _) _).alloc (by simp) _
  clear hW
  have c5 := bx5 X0
  have e0 := bx_cell X1 0 rfl
  have e1 := bx_cell X1 1 rfl
  have g0 := bx_frozen X1 0
  have g1 := bx_frozen X1 1
  have d1 := (hb.cell (p := ⟨b1, o1 + f.toNat, none⟩) hb1).trans hc1
  have d2 := (hb.cell (p := ⟨b2, o2 + f.toNat, none⟩) hb2).trans hc2
  have d3 := (hb.cell (p := ⟨b3, o3 + y.toNat, none⟩) hb3).trans hc3
  have d4 := (hb.cell (p := ⟨b3, o3 + z.toNat, none⟩) hb3).trans hc4
  clear hc1 hc2 hc3 hc4
  have XX := Lib.hid X1; clear X1 X0
  go_region_held3 (fun w' => (w'.cell? ⟨w.heap.size, 0, none⟩ = some (.int .i64 c.ob) ∧ w'.cell? ⟨w.heap.size, 1, none⟩ = some (.slice (some ⟨b1, o1, none⟩) c.s.length k1) ∧ w'.cell? ⟨w.heap.size, 2, none⟩ = some (.slice (some ⟨b2, o2, none⟩) c.t.length k2) ∧ w'.cell? ⟨w.heap.size, 3, none⟩ = some (.slice (some ⟨b3, o3, none⟩) c.e.length k3) ∧ w'.cell? ⟨w.heap.size, 4, none⟩ = some (.slice x4 c.m.length k4)) ∧ w'.cell? ⟨b1, o1 + f.toNat, none⟩ = some (.int .i64 y) ∧ w'.cell? ⟨b2, o2 + f.toNat, none⟩ = some (.int .i64 z) ∧ w'.cell? ⟨b3, o3 + y.toNat, none⟩ = some (.int .i64 ey) ∧ w'.cell? ⟨b3, o3 + z.toNat, none⟩ = some (.int .i64 ez))
    (first | exact ⟨c5, d1, d2, d3, d4⟩ | (have n1 : w.heap.size + 1 ≠ b1 := by omega
                                           have n2 : w.heap.size + 1 ≠ b2 := by omega
                                           have n3 : w.heap.size + 1 ≠ b3 := by omega
                                           go_keep))
    (fail)
  go_wp2
  have Y := bx_set (bx_set XX.out 0 (.int .i64 ey)) 1 (.int .i64 ez)
  have hbF : Below w.heap.size w ((W.setCell ⟨w.heap.size + 1, 0, none⟩ (.int .i64 ey)).setCell ⟨w.heap.size + 1, 1, none⟩ (.int .i64 ez)).drew := ((hb.setCell (by simp) _).setCell (by simp) _).drew
  generalize hF : World.drew _ = F at hbF ⊢
  have YF : Bx F (w.heap.size + 1) 89 [.int .i64 ey, .int .i64 ez] := by rw [← hF]; exact Y
  have y0 := bx_cell YF 0 rfl
  have y1 := bx_cell YF 1 rfl
  exact bodyPost_ret (v := .agg #[.int .i64 ey, .int .i64 ez]) (by simp [results, Try.results94, go_sem, y0, y1]) rfl ⟨rfl, hbF⟩

def IdFP (c : Cat) (k f : Int) : Prop :=
  (k = 1 ∧ ∃ m : Nat, f = m ∧ m < c.s.length ∧ badId c m ∧ ∀ j : Nat, j < m → ¬ badId c j) ∨ (k = 0 ∧ f = 0 ∧ ∀ j : Nat, j < c.s.length → ¬ badId c j)
def RetF (W : World) (k f g h : Int) (e : Ending) (w' : World) : Prop := e = .returned (.agg #[.int .i64 k, .int .i64 f, .int .i64 g, .int .i64 h]) ∧ Below W.heap.size W w'

theorem idFP_yes {c : Cat} {kk ff : Int} (h : IdFP c kk ff) {k : Nat} (hk : k < c.s.length) (hb : badId c k) (hf : ∀ j : Nat, j < k → ¬ badId c j) : kk = 1 ∧ ff = k := by
  rcases h with ⟨h1, m, h2, h3, h4, h5⟩ | ⟨_, _, h3⟩
  · refine ⟨h1, ?_⟩
    rcases Nat.lt_trichotomy m k with h | h | h
    · exact absurd h4 (hf m h)
    · rw [h2, h]
    · exact absurd hb (h5 k h)
  · exact absurd hb (h3 k hk)
theorem idFP_no {c : Cat} {kk ff : Int} (h : IdFP c kk ff) (hf : ∀ j : Nat, j < c.s.length → ¬ badId c j) : kk = 0 ∧ ff = 0 := by
  rcases h with ⟨_, m, _, h3, h4, _⟩ | ⟨h1, h2, _⟩
  · exact absurd h4 (hf m h3)
  · exact ⟨h1, h2⟩

theorem bx2 {w : World} {B : Nat} {t : TypeId} {a b : Value} (h : Bx w B t [a, b]) : w.cell? ⟨B, 0, none⟩ = some a ∧ w.cell? ⟨B, 1, none⟩ = some b := ⟨bx_cell h 0 rfl, bx_cell h 1 rfl⟩
theorem bx4 {w : World} {B : Nat} {t : TypeId} {a b d e : Value} (h : Bx w B t [a, b, d, e]) : w.cell? ⟨B, 0, none⟩ = some a ∧ w.cell? ⟨B, 1, none⟩ = some b ∧ w.cell? ⟨B, 2, none⟩ = some d ∧ w.cell? ⟨B, 3, none⟩ = some e :=
  ⟨bx_cell h 0 rfl, bx_cell h 1 rfl, bx_cell h 2 rfl, bx_cell h 3 rfl⟩

set_option maxHeartbeats 4000000 in
set_option maxRecDepth 100000 in
theorem idFault_any (w : World) (v : Value) (c : Cat) (kk ff : Int) (h : RdC w v c) (hS : ShapeP c) (hP : IdFP c kk ff) :
    Calls Try.prog 90 #[v] w (RetF w kk ff 0 0) := by
  have HV := Lib.hid h
  obtain ⟨x1, x2, x3, x4, k1, k2, k3, k4, rfl, _, _, _, _, l1, l2, l3, l4⟩ := h.lists
  have HSH := Lib.hid hS; have HP := Lib.hid hP
  clear h hS hP
  go_enter Try.func90, Try.ntmps90
  go_wp2_with fail
  generalize hW : World.alloc _ _ = W
  have A0 : Bx W w.heap.size 28 [.int .i64 c.ob, .slice x1 c.s.length k1, .slice x2 c.t.length k2, .slice x3 c.e.length k3, .slice x4 c.m.length k4] := by rw [← hW]; exact bx_alloc (bx_new _ _ _) _
  have A1 : Bx W (w.heap.size + 1) 64 [.int .i64 0, .int .i64 0, .int .i64 0, .int .i64 0] := by rw [← hW]; exact bx_at (bx_new _ _ _) (by simp)
  have hb : Below w.heap.size w W := by rw [← hW]; exact ((Below.refl _ _).alloc (Nat.le_refl _) _).alloc (by simp) _
  clear hW
  refine (arrows_any _ _ c (rdC_below hb HV.out)).mono ?_; rintro e w1 ⟨rfl, hn1⟩
  have X0 := Lib.hid (bx_below hn1 A0); have X1 := Lib.hid (bx_below hn1 A1)
  have hb1 := hb.trans (hn1.mono hb.size)
  clear hb hn1 A0 A1
  go_wp2
  go_loopw [3, 4, 7, 10, 11, 12, 13, 14, 15, 16, 17, 18, 19, 20, 21, 22, 23, 24, 25, 26, 27] (fun _ _ i _ _ _ _ _ _ _ _ _ _ _ _ _ _ _ _ _ _ wr => ∃ k : Nat, k ≤ c.s.length ∧ i = .int .i64 k ∧ Hid (∀ j : Nat, j < k → ¬ badId c j) ∧ Hid (Bx wr w.heap.size 28 [.int .i64 c.ob, .slice x1 c.s.length k1, .slice x2 c.t.length k2, .slice x3 c.e.length k3, .slice x4 c.m.length k4]) ∧ Hid (Bx wr (w.heap.size + 1) 64 [.int .i64 0, .int .i64 0, .int .i64 0, .int .i64 0]) ∧ Below w.heap.size w wr) (fun _ _ i _ _ _ _ _ _ _ _ _ _ _ _ _ _ _ _ _ _ _ => c.s.length - (intOf i).toNat)
  case atStart => exact ⟨0, Nat.zero_le _, rfl, fun j hj => absurd hj (by omega), X0, X1, hb1⟩
  case round =>
    clear X0 X1 hb1
    obtain ⟨k, hk, rfl, hall, hx0, hx1, hbel⟩ := hrel
    by_cases hlt : k < c.s.length
    · have c5 := bx5 hx0.out
      have hap := arrP HSH.out (f := (k : Int)) (by omega) (by omega)
      have HAP := Lib.hid hap; clear hap
      have hi1 := HSH.out.idn (x := at0 c.s k) HAP.out.s0 (by have := HSH.out.el; have := HAP.out.s1; omega)
      have hi2 := HSH.out.idn (x := at0 c.t k) HAP.out.t0 (by have := HSH.out.el; have := HAP.out.t1; omega)
      have hbad : badId c k ↔ ¬ (c.th (at0 c.e (at0 c.s k)) k = k ∧ c.th k (at0 c.e (at0 c.t k)) = k) := Iff.rfl
      have hap1 := arrP HSH.out hi1.1 hi1.2.1
      have T17 : Hid (∀ w v, RdC w v c → Calls Try.prog 65 #[v, .int .i64 (at0 c.e (at0 c.s k)), .int .i64 (k : Int)] w (RetI w (c.th (at0 c.e (at0 c.s k)) k))) :=
        fun w v hv => then_any w v c _ _ hv hi1.1 hap1.fm (by omega) (by rw [hap1.row]; omega)
      have T22 : Hid (∀ w v, RdC w v c → Calls Try.prog 65 #[v, .int .i64 (k : Int), .int .i64 (at0 c.e (at0 c.t k))] w (RetI w (c.th k (at0 c.e (at0 c.t k))))) :=
        fun w v hv => then_any w v c _ _ hv (by omega) HAP.out.fm hi2.1 (by rw [HAP.out.row]; exact hi2.2.1)
      clear hap1 hi1 hi2
      go_wp2_with fail
      refine (units_any _ _ c k (rdC_below hbel HV.out) HAP.out).mono ?_; rintro e w2 ⟨rfl, hn2⟩
      have y0 := Lib.hid (bx_below hn2 hx0.out); have y1 := Lib.hid (bx_below hn2 hx1.out)
      have hb2 := hbel.trans (hn2.mono hbel.size)
      clear hx0 hx1 hbel hn2 c5
      generalize c.th (at0 c.e (at0 c.s k)) k = p1 at *
      generalize c.th k (at0 c.e (at0 c.t k)) = p2 at *
      generalize at0 c.e (at0 c.s k) = u1 at *
      generalize at0 c.e (at0 c.t k) = u2 at *
      have HBAD := Lib.hid hbad; clear hbad
      go_wp2
      generalize hW : World.alloc _ _ = W2
      have hn3 : Below w2.heap.size w2 W2 := by rw [← hW]; exact (Below.refl _ _).alloc (Nat.le_refl _) _
      have Z2 : Bx W2 w2.heap.size 89 [.int .i64 u1, .int .i64 u2] := by rw [← hW]; exact bx_new _ _ _
      have Z0 := bx_below hn3 y0.out; have Z1 := bx_below hn3 y1.out
      have hb3 := hb2.trans (hn3.mono hb2.size)
      clear hW hn3 y0 y1 hb2
      have c5 := bx5 Z0
      have c2 := bx2 Z2
      have ZZ0 := Lib.hid Z0; have ZZ1 := Lib.hid Z1; have ZZ2 := Lib.hid Z2
      clear Z0 Z1 Z2
      have hcase : ((p1 == (k : Int)) = true ∧ (p2 == (k : Int)) = true ∧ ¬ badId c k) ∨ ((p1 == (k : Int)) = true ∧ (p2 == (k : Int)) = false ∧ badId c k) ∨ ((p1 == (k : Int)) = false ∧ badId c k) := by
        by_cases q1 : p1 = k
        · by_cases q2 : p2 = k
          · exact .inl ⟨by simpa using q1, by simpa using q2, fun hb => HBAD.out.1 hb ⟨q1, q2⟩⟩
          · exact .inr (.inl ⟨by simpa using q1, by simpa using q2, HBAD.out.2 fun h => q2 h.2⟩)
        · exact .inr (.inr ⟨by simpa using q1, HBAD.out.2 fun h => q1 h.1⟩)
      rcases hcase with ⟨t1, t2, hgood⟩ | ⟨t1, t2, hbad⟩ | ⟨t1, hbad⟩
      · have HG := Lib.hid hgood; clear hgood
        go_region_held3 (fun w' => (w'.cell? ⟨w.heap.size, 0, none⟩ = some (.int .i64 c.ob) ∧ w'.cell? ⟨w.heap.size, 1, none⟩ = some (.slice x1 c.s.length k1) ∧ w'.cell? ⟨w.heap.size, 2, none⟩ = some (.slice x2 c.t.length k2) ∧ w'.cell? ⟨w.heap.size, 3, none⟩ = some (.slice x3 c.e.length k3) ∧ w'.cell? ⟨w.heap.size, 4, none⟩ = some (.slice x4 c.m.length k4)) ∧ w'.cell? ⟨w2.heap.size, 0, none⟩ = some (.int .i64 u1) ∧ w'.cell? ⟨w2.heap.size, 1, none⟩ = some (.int .i64 u2))
          (first | exact ⟨c5, c2⟩ | exact ⟨bx5 (bx_below hm2 ZZ0.out), bx2 (bx_below hm2 ZZ2.out)⟩ | exact ⟨bx5 (bx_below hm1 ZZ0.out), bx2 (bx_below hm1 ZZ2.out)⟩ | go_keep)
          (first
            | ((with_reducible refine (T17.out _ _ (rdC_below hb3.drew HV.out)).mono ?_); rintro e q1 ⟨rfl, hq1⟩; have hm1 : Below W2.heap.size W2 q1 := ⟨hq1.os, hq1.tape, hq1.output, hq1.size, hq1.block⟩)
            | ((with_reducible refine (T22.out _ _ (rdC_below hb3.drew HV.out)).mono ?_); rintro e q1 ⟨rfl, hq1⟩; have hm1 : Below W2.heap.size W2 q1 := ⟨hq1.os, hq1.tape, hq1.output, hq1.size, hq1.block⟩)
            | ((with_reducible refine (T17.out _ _ (rdC_below (hb3.trans (hm1.mono hb3.size)) HV.out)).mono ?_); rintro e q2 ⟨rfl, hq2⟩; have hm2 : Below W2.heap.size W2 q2 := hm1.trans (hq2.mono hm1.size))
            | ((with_reducible refine (T22.out _ _ (rdC_below (hb3.trans (hm1.mono hb3.size)) HV.out)).mono ?_); rintro e q2 ⟨rfl, hq2⟩; have hm2 : Below W2.heap.size W2 q2 := hm1.trans (hq2.mono hm1.size))
            | ((with_reducible refine (T17.out _ _ (rdC_below (hb3.trans (hm1.mono hb3.size)).drew HV.out)).mono ?_); rintro e q2 ⟨rfl, hq2⟩; have hm2 : Below W2.heap.size W2 q2 := hm1.drew.trans (hq2.mono hm1.drew.size))
            | ((with_reducible refine (T22.out _ _ (rdC_below (hb3.trans (hm1.mono hb3.size)).drew HV.out)).mono ?_); rintro e q2 ⟨rfl, hq2⟩; have hm2 : Below W2.heap.size W2 q2 := hm1.drew.trans (hq2.mono hm1.drew.size)))
        all_goals
          have F1 := Lib.hid (bx_below hm2 ZZ1.out)
          have F0 := Lib.hid (bx_below hm2 ZZ0.out)
          have hb4 := hb3.trans (hm2.mono hb3.size)
          go_wp2
          go_roundw
          case rel =>
            refine ⟨k + 1, by omega, by go_num, fun j hj => ?_, F0, F1, by first | exact hb4 | exact hb4.drew⟩
            by_cases hjk : j = k
            · subst hjk; exact HG.out
            · exact hall.out j (by omega)
          case measure => simp [intOf]; omega
      · skip
        obtain ⟨rfl, rfl⟩ := idFP_yes HP.out hlt hbad hall.out
        clear hbad
        go_region_held3 (fun w' => (w'.cell? ⟨w.heap.size, 0, none⟩ = some (.int .i64 c.ob) ∧ w'.cell? ⟨w.heap.size, 1, none⟩ = some (.slice x1 c.s.length k1) ∧ w'.cell? ⟨w.heap.size, 2, none⟩ = some (.slice x2 c.t.length k2) ∧ w'.cell? ⟨w.heap.size, 3, none⟩ = some (.slice x3 c.e.length k3) ∧ w'.cell? ⟨w.heap.size, 4, none⟩ = some (.slice x4 c.m.length k4)) ∧ w'.cell? ⟨w2.heap.size, 0, none⟩ = some (.int .i64 u1) ∧ w'.cell? ⟨w2.heap.size, 1, none⟩ = some (.int .i64 u2))
          (first | exact ⟨c5, c2⟩ | exact ⟨bx5 (bx_below hm2 ZZ0.out), bx2 (bx_below hm2 ZZ2.out)⟩ | exact ⟨bx5 (bx_below hm1 ZZ0.out), bx2 (bx_below hm1 ZZ2.out)⟩ | go_keep)
          (first
            | ((with_reducible refine (T17.out _ _ (rdC_below hb3.drew HV.out)).mono ?_); rintro e q1 ⟨rfl, hq1⟩; have hm1 : Below W2.heap.size W2 q1 := ⟨hq1.os, hq1.tape, hq1.output, hq1.size, hq1.block⟩)
            | ((with_reducible refine (T22.out _ _ (rdC_below hb3.drew HV.out)).mono ?_); rintro e q1 ⟨rfl, hq1⟩; have hm1 : Below W2.heap.size W2 q1 := ⟨hq1.os, hq1.tape, hq1.output, hq1.size, hq1.block⟩)
            | ((with_reducible refine (T17.out _ _ (rdC_below (hb3.trans (hm1.mono hb3.size)) HV.out)).mono ?_); rintro e q2 ⟨rfl, hq2⟩; have hm2 : Below W2.heap.size W2 q2 := hm1.trans (hq2.mono hm1.size))
            | ((with_reducible refine (T22.out _ _ (rdC_below (hb3.trans (hm1.mono hb3.size)) HV.out)).mono ?_); rintro e q2 ⟨rfl, hq2⟩; have hm2 : Below W2.heap.size W2 q2 := hm1.trans (hq2.mono hm1.size))
            | ((with_reducible refine (T17.out _ _ (rdC_below (hb3.trans (hm1.mono hb3.size)).drew HV.out)).mono ?_); rintro e q2 ⟨rfl, hq2⟩; have hm2 : Below W2.heap.size W2 q2 := hm1.drew.trans (hq2.mono hm1.drew.size))
            | ((with_reducible refine (T22.out _ _ (rdC_below (hb3.trans (hm1.mono hb3.size)).drew HV.out)).mono ?_); rintro e q2 ⟨rfl, hq2⟩; have hm2 : Below W2.heap.size W2 q2 := hm1.drew.trans (hq2.mono hm1.drew.size)))
        all_goals
          have F1 := bx_below hm2 ZZ1.out
          have f4 := bx4 F1
          have g0 := bx_frozen F1 0
          have g1 := bx_frozen F1 1
          have g2 := bx_frozen F1 2
          have g3 := bx_frozen F1 3
          have Y := bx_set (bx_set (bx_set (bx_set F1 0 (.int .i64 1)) 1 (.int .i64 k)) 2 (.int .i64 0)) 3 (.int .i64 0)
          have hbF := ((((hb3.trans (hm2.mono hb3.size)).setCell (p := ⟨w.heap.size + 1, 0, none⟩) (by simp) (.int .i64 1)).setCell (p := ⟨w.heap.size + 1, 1, none⟩) (by simp) (.int .i64 k)).setCell (p := ⟨w.heap.size + 1, 2, none⟩) (by simp) (.int .i64 0)).setCell (p := ⟨w.heap.size + 1, 3, none⟩) (by simp) (.int .i64 0)
          have YY := Lib.hid Y; have HBF := Lib.hid hbF; clear Y hbF F1
          go_wp2
          generalize hF : World.setCell _ _ _ = F
          have Y := YY.out; have hbF := HBF.out
          first | rw [hF] at Y hbF | skip
          have y4 := bx4 Y
          exact bodyPost_ret (v := .agg #[.int .i64 1, .int .i64 k, .int .i64 0, .int .i64 0]) (by simp [results, Try.results90, go_sem, y4]) rfl ⟨rfl, hbF⟩
      · skip
        obtain ⟨rfl, rfl⟩ := idFP_yes HP.out hlt hbad hall.out
        clear hbad
        go_region_held3 (fun w' => (w'.cell? ⟨w.heap.size, 0, none⟩ = some (.int .i64 c.ob) ∧ w'.cell? ⟨w.heap.size, 1, none⟩ = some (.slice x1 c.s.length k1) ∧ w'.cell? ⟨w.heap.size, 2, none⟩ = some (.slice x2 c.t.length k2) ∧ w'.cell? ⟨w.heap.size, 3, none⟩ = some (.slice x3 c.e.length k3) ∧ w'.cell? ⟨w.heap.size, 4, none⟩ = some (.slice x4 c.m.length k4)) ∧ w'.cell? ⟨w2.heap.size, 0, none⟩ = some (.int .i64 u1) ∧ w'.cell? ⟨w2.heap.size, 1, none⟩ = some (.int .i64 u2))
          (first | exact ⟨c5, c2⟩ | exact ⟨bx5 (bx_below hm2 ZZ0.out), bx2 (bx_below hm2 ZZ2.out)⟩ | exact ⟨bx5 (bx_below hm1 ZZ0.out), bx2 (bx_below hm1 ZZ2.out)⟩ | go_keep)
          (first
            | ((with_reducible refine (T17.out _ _ (rdC_below hb3.drew HV.out)).mono ?_); rintro e q1 ⟨rfl, hq1⟩; have hm1 : Below W2.heap.size W2 q1 := ⟨hq1.os, hq1.tape, hq1.output, hq1.size, hq1.block⟩)
            | ((with_reducible refine (T22.out _ _ (rdC_below hb3.drew HV.out)).mono ?_); rintro e q1 ⟨rfl, hq1⟩; have hm1 : Below W2.heap.size W2 q1 := ⟨hq1.os, hq1.tape, hq1.output, hq1.size, hq1.block⟩)
            | ((with_reducible refine (T17.out _ _ (rdC_below (hb3.trans (hm1.mono hb3.size)) HV.out)).mono ?_); rintro e q2 ⟨rfl, hq2⟩; have hm2 : Below W2.heap.size W2 q2 := hm1.trans (hq2.mono hm1.size))
            | ((with_reducible refine (T22.out _ _ (rdC_below (hb3.trans (hm1.mono hb3.size)) HV.out)).mono ?_); rintro e q2 ⟨rfl, hq2⟩; have hm2 : Below W2.heap.size W2 q2 := hm1.trans (hq2.mono hm1.size))
            | ((with_reducible refine (T17.out _ _ (rdC_below (hb3.trans (hm1.mono hb3.size)).drew HV.out)).mono ?_); rintro e q2 ⟨rfl, hq2⟩; have hm2 : Below W2.heap.size W2 q2 := hm1.drew.trans (hq2.mono hm1.drew.size))
            | ((with_reducible refine (T22.out _ _ (rdC_below (hb3.trans (hm1.mono hb3.size)).drew HV.out)).mono ?_); rintro e q2 ⟨rfl, hq2⟩; have hm2 : Below W2.heap.size W2 q2 := hm1.drew.trans (hq2.mono hm1.drew.size)))
        all_goals
          have F1 := bx_below hm2 ZZ1.out
          have f4 := bx4 F1
          have g0 := bx_frozen F1 0
          have g1 := bx_frozen F1 1
          have g2 := bx_frozen F1 2
          have g3 := bx_frozen F1 3
          have Y := bx_set (bx_set (bx_set (bx_set F1 0 (.int .i64 1)) 1 (.int .i64 k)) 2 (.int .i64 0)) 3 (.int .i64 0)
          have hbF := ((((hb3.trans (hm2.mono hb3.size)).setCell (p := ⟨w.heap.size + 1, 0, none⟩) (by simp) (.int .i64 1)).setCell (p := ⟨w.heap.size + 1, 1, none⟩) (by simp) (.int .i64 k)).setCell (p := ⟨w.heap.size + 1, 2, none⟩) (by simp) (.int .i64 0)).setCell (p := ⟨w.heap.size + 1, 3, none⟩) (by simp) (.int .i64 0)
          have YY := Lib.hid Y; have HBF := Lib.hid hbF; clear Y hbF F1
          go_wp2
          generalize hF : World.setCell _ _ _ = F
          have Y := YY.out; have hbF := HBF.out
          first | rw [hF] at Y hbF | skip
          have y4 := bx4 Y
          exact bodyPost_ret (v := .agg #[.int .i64 1, .int .i64 k, .int .i64 0, .int .i64 0]) (by simp [results, Try.results90, go_sem, y4]) rfl ⟨rfl, hbF⟩
    · obtain rfl : k = c.s.length := by omega
      obtain ⟨rfl, rfl⟩ := idFP_no HP.out hall.out
      have f4 := bx4 hx1.out
      have g0 := bx_frozen hx1.out 0
      have g1 := bx_frozen hx1.out 1
      have g2 := bx_frozen hx1.out 2
      have g3 := bx_frozen hx1.out 3
      have Y := bx_set (bx_set (bx_set (bx_set hx1.out 0 (.int .i64 0)) 1 (.int .i64 0)) 2 (.int .i64 0)) 3 (.int .i64 0)
      have hbF := (((hbel.setCell (p := ⟨w.heap.size + 1, 0, none⟩) (by simp) (.int .i64 0)).setCell (p := ⟨w.heap.size + 1, 1, none⟩) (by simp) (.int .i64 0)).setCell (p := ⟨w.heap.size + 1, 2, none⟩) (by simp) (.int .i64 0)).setCell (p := ⟨w.heap.size + 1, 3, none⟩) (by simp) (.int .i64 0)
      have YY := Lib.hid Y; have HBF := Lib.hid hbF; clear Y hbF
      go_wp2
      generalize hF : World.setCell _ _ _ = F
      have Y := YY.out; have hbF := HBF.out
      rw [hF] at Y hbF
      have y4 := bx4 Y
      exact bodyPost_ret (v := .agg #[.int .i64 0, .int .i64 0, .int .i64 0, .int .i64 0]) (by simp [results, Try.results90, go_sem, y4]) rfl ⟨rfl, hbF⟩

end Go.Proofs.Ytakifeiemcldlaa
