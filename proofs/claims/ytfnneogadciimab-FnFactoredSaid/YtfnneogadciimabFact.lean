
/- FactorMap: the program and its model. -/
import Derived.Test.YtfnneogadciimabImag
set_option linter.unusedSimpArgs false
set_option linter.unusedVariables false
set_option linter.unusedSectionVars false
namespace Go.Proofs.Ytfnneogadciimab
open Go.RowKit

def quoL (img f : List Int) : List Int := f.map fun y => (img.idxOf y : Int)
def fFactorMap (n : Int) (f : List Int) : List Int × List Int × Int :=
  if codeM n f = 0 then (quoL (imgL n.toNat f) f, imgL n.toNat f, 0) else ([], [], codeM n f)

theorem quoL_snoc {img f : List Int} {k : Nat} (hk : k < f.length) : quoL img (f.take (k + 1)) = quoL img (f.take k) ++ [(img.idxOf (f.getD k 0) : Int)] := by
  rw [take_snoc hk]; simp [quoL]

theorem quo_fill {img f : List Int} {k : Nat} (hk : k < f.length) :
    (quoL img (f.take k) ++ List.replicate (f.length - k) 0).set k (img.idxOf (f.getD k 0) : Int) = quoL img (f.take (k + 1)) ++ List.replicate (f.length - (k + 1)) 0 := by
  have hl : (quoL img (f.take k)).length = k := by simp [quoL]; omega
  rw [List.set_append, if_neg (by omega), hl, Nat.sub_self, quoL_snoc hk]
  obtain ⟨m, hm⟩ : ∃ m, f.length - k = m + 1 := ⟨f.length - k - 1, by omega⟩
  have hm' : f.length - (k + 1) = m := by omega
  rw [hm, hm', List.replicate_succ]
  simp

theorem asc_count : ∀ (l : List Int) (x : Int), l.Pairwise (· < ·) → x ∈ l → l.countP (fun y => decide (y < x)) = l.idxOf x
  | [], _, _, h => by simp at h
  | a :: l, x, hp, h => by
    rw [List.pairwise_cons] at hp
    rw [List.countP_cons, List.idxOf_cons]
    by_cases ha : a = x
    · subst ha
      have h0 : l.countP (fun y => decide (y < a)) = 0 := by
        rw [List.countP_eq_zero]
        intro b hb
        have := hp.1 b hb
        simp; omega
      rw [h0]
      simp
    · have hx : x ∈ l := by
        rcases List.mem_cons.1 h with e | e
        · exact absurd e.symm ha
        · exact e
      have hlt : a < x := hp.1 x hx
      have hb : (a == x) = false := by simpa using ha
      rw [asc_count l x hp.2 hx, hb]
      simp [hlt]

theorem asc_le {l : List Int} (h : l.Pairwise (· < ·)) : l.Pairwise (· ≤ ·) := h.imp (fun h => by omega)

theorem retLLI_nil {w : World} {W : World} {c : Int} (hb : Below W.heap.size W w) : RetLLI W [] [] c (.returned (.tuple #[.slice none 0 0, .slice none 0 0, .int .i64 c])) w :=
  ⟨_, _, rfl, Sl.nil _ _, Sl.nil _ _, fun g hg => by simp [Value.ownBlock] at hg, hb⟩

set_option maxHeartbeats 800000 in
set_option maxRecDepth 100000 in
theorem spec_FactorMap (w : World) (n : Int) (v : Value) (f : List Int) (h : Rd w v f) :
    Calls Try.prog 41 #[.int .i64 n, v] w (RetLLI w (fFactorMap n f).1 (fFactorMap n f).2.1 (fFactorMap n f).2.2) := by
  obtain ⟨c, hc⟩ : ∃ c, codeM n f = c := ⟨_, rfl⟩
  unfold fFactorMap
  rw [hc]
  by_cases h0 : c = 0
  · subst h0
    rw [if_pos rfl]
    have hmap := codeM_map hc
    obtain ⟨m, hm⟩ := Int.eq_ofNat_of_zero_le hmap.1.1
    have hm2 := hmap.1.2
    subst hm
    rw [Int.toNat_natCast]
    have hall : AllP m f := hmap.2.2
    have HALL := Lib.hid hall
    have HC := Lib.hid hc; clear hc hmap hall
    have HIM := Lib.hid (fun x => mem_imgL HALL.out x)
    obtain ⟨img, himg⟩ : ∃ img, img = imgL m f := ⟨_, rfl⟩
    rw [← himg] at HIM
    rw [← himg]
    have HIMG := Lib.hid himg; clear himg
    have R := h
    obtain ⟨a, cap, rfl, hl, hcc⟩ := h
    have HCC := Lib.hid hcc; clear hcc
    go_enter Try.func41, Try.ntmps41
    go_wp2_with fail
    refine (specCode_any _ _ _ _ 0 R HC.out).mono ?_; rintro e w1 ⟨rfl, hb1⟩
    go_wp2_with fail
    refine (specImage_any _ m _ _ (rd_below hb1 R) (by omega)).mono ?_; rintro e w2 ⟨y, rfl, hs, hb2⟩
    rw [← HIMG.out] at hs
    have hsi := hs.mono hb1.size
    have hb := hb1.trans (hb2.mono hb1.size)
    go_wp2
    have hbe : Below w.heap.size w (w2.alloc (.cells #[] 2)) := hb.alloc hb.size _
    have HE := Lib.hid ((sl_empty w2).mono hb.size)
    have HSI := Lib.hid (sl_alloc hsi (.cells #[] 2))
    have HAP := Lib.hid (apart_of hsi (sl_empty w2))
    go_loopw [9, 10] (fun x i wr => ∃ k : Nat, k ≤ f.length ∧ i = .int .i64 k ∧ Sl wr w.heap.size x (quoL img (f.take k)) ∧ Sl wr w.heap.size y img ∧ Apart x y ∧ Below w.heap.size w wr) (fun _ i _ => f.length - (intOf i).toNat)
    case atStart => exact ⟨0, Nat.zero_le _, rfl, by simpa [quoL] using HE.out, HSI.out, HAP.out.symm, hbe⟩
    case round =>
      obtain ⟨k, hk, rfl, hx, hy, hap, hbel⟩ := hrel
      by_cases hlt : k < f.length
      · obtain ⟨bb, off, rfl, hbs, hcell⟩ := HCC.out k hlt
        have c1 : wr.cell? ⟨bb, off + k, none⟩ = some (.int .i64 (f.getD k 0)) := (hbel.cell (p := ⟨bb, off + k, none⟩) hbs).trans (hcell k hlt)
        have hsn := quoL_snoc (img := img) hlt
        have hmem : f.getD k 0 ∈ img := (HIM.out _).2 (mem_getD hlt)
        have hln : (quoL img (f.take k)).length ≤ k := by simp [quoL]; omega
        clear hcell
        obtain ⟨z, hz⟩ : ∃ z, z = f.getD k 0 := ⟨_, rfl⟩
        rw [← hz] at c1 hsn hmem
        have hix : idxI img z = (img.idxOf z : Int) := by rw [idxI, if_pos hmem]
        obtain ⟨q, hq⟩ : ∃ q : Nat, q = img.idxOf z := ⟨_, rfl⟩
        rw [← hq] at hix hsn
        have HIX := Lib.hid hix; have HSN := Lib.hid hsn; clear hix hsn hz hq hmem
        go_wp2_with fail
        refine (specIndex_any _ _ img z hy.rd).mono ?_; rintro e w3 ⟨rfl, hb3⟩
        rw [HIX.out]
        replace hx := sl_below hb3 hx
        replace hy := sl_below hb3 hy
        replace hbel := hbel.trans (hb3.mono hbel.size)
        go_wp2_with (at_builtin; refine wp_app64x rfl _ _ _ rfl Try.underlying22 (q : Int) hx rfl rfl (by omega) hbel.size ?_; intro v1 w4 hs1 hg1 hgv)
        go_roundw
        case rel => exact ⟨k + 1, by omega, by go_num, by rw [HSN.out]; exact hs1, sl_kept hy hg1 (apart_ne hap.symm), (apart_grow hy hap.symm hgv).symm, below_grown hbel hx (Nat.le_refl _) hg1⟩
        case measure => simp [intOf]; omega
      · obtain rfl : k = f.length := by omega
        rw [List.take_length] at hx
        go_wp2
        go_ret3
        exact ⟨_, _, rfl, hx, hy, hap, hbel⟩
  · have HC := Lib.hid hc; clear hc
    rw [if_neg h0]
    have hne : (c != 0) = true := by simpa using h0
    clear h0
    go_enter Try.func41, Try.ntmps41
    go_wp2_with fail
    refine (specCode_any _ _ _ _ c h HC.out).mono ?_; rintro e w1 ⟨rfl, hb1⟩
    go_wp2
    go_ret3
    exact retLLI_nil hb1

set_option maxHeartbeats 800000 in
set_option maxRecDepth 100000 in
theorem impl_FactorMap (w : World) (n : Int) (v : Value) (f : List Int) (h : Rd w v f) :
    Calls Try.prog 40 #[.int .i64 n, v] w (RetLLI w (fFactorMap n f).1 (fFactorMap n f).2.1 (fFactorMap n f).2.2) := by
  obtain ⟨c, hc⟩ : ∃ c, codeM n f = c := ⟨_, rfl⟩
  unfold fFactorMap
  rw [hc]
  by_cases h0 : c = 0
  · subst h0
    rw [if_pos rfl]
    have hmap := codeM_map hc
    have hall : AllP n.toNat f := fun x hx => by have := hmap.2.2 x hx; omega
    have hfi : fImageOf n f = (imgL n.toNat f, 0) := by rw [fImageOf, if_pos hc]
    have HALL := Lib.hid hall; have HFI := Lib.hid hfi
    have HASC := Lib.hid (imgL_asc n.toNat f)
    clear hc hmap hall hfi
    have HIM := Lib.hid (fun x => mem_imgL HALL.out x)
    obtain ⟨img, himg⟩ : ∃ img, img = imgL n.toNat f := ⟨_, rfl⟩
    rw [← himg] at HIM HFI HASC
    rw [← himg]
    clear himg
    have R := h
    obtain ⟨a, cap, rfl, hl, hcc⟩ := h
    have HCC := Lib.hid hcc; clear hcc
    go_enter Try.func40, Try.ntmps40
    go_wp2_with fail
    refine (impl_ImageOf _ n _ f R).mono ?_; rw [HFI.out]; rintro e w1 ⟨y, rfl, hsi, hb1⟩
    go_wp2_with (at_make; refine wp_make64 rfl _ _ _ rfl Try.underlying22 .i64 .i64 _ _ f.length rfl rfl rfl rfl hl ?_; intro w2 hs2 hb2 hz2)
    have HS := Lib.hid (hs2.mono hb1.size)
    have HSI := Lib.hid (sl_below hb2 hsi)
    have HAP := Lib.hid (apart_of hsi hs2)
    clear hs2
    have hbx : Below w.heap.size w w2 := hb1.trans (hb2.mono hb1.size)
    go_loopw [28] (fun i wr => ∃ k : Nat, k ≤ f.length ∧ i = .int .i64 k ∧ Sl wr w.heap.size (.slice (some ⟨w1.heap.size, 0, none⟩) f.length f.length) (quoL img (f.take k) ++ List.replicate (f.length - k) 0) ∧ Sl wr w.heap.size y img ∧ Below w.heap.size w wr) (fun i _ => f.length - (intOf i).toNat)
    case atStart => exact ⟨0, Nat.zero_le _, rfl, by simpa [quoL] using HS.out, HSI.out, hbx⟩
    case round =>
      obtain ⟨k, hk, rfl, hx, hy, hbel⟩ := hrel
      by_cases hlt : k < f.length
      · obtain ⟨bb, off, rfl, hbs, hcell⟩ := HCC.out k hlt
        have c1 : wr.cell? ⟨bb, off + k, none⟩ = some (.int .i64 (f.getD k 0)) := (hbel.cell (p := ⟨bb, off + k, none⟩) hbs).trans (hcell k hlt)
        have hmem : f.getD k 0 ∈ img := (HIM.out _).2 (mem_getD hlt)
        have hset := sl_set hx k (img.idxOf (f.getD k 0) : Int)
        rw [quo_fill hlt] at hset
        have c3 := sl_cell hx (j := k) (by simp [quoL]; omega)
        have c4 := sl_frozen hx k
        have hcnt := asc_count img (f.getD k 0) HASC.out hmem
        have hpos : 0 < img.length := List.length_pos_of_mem hmem
        obtain ⟨ai, capi, rfl, hfi⟩ := sl_form hy
        obtain ⟨gi, rfl⟩ := hfi 0 hpos
        have hyc : ∀ j, j < img.length → wr.cell? ⟨gi, 0 + j, none⟩ = some (.int .i64 (img.getD j 0)) := fun j hj => by rw [Nat.zero_add]; exact sl_cell hy hj
        have hyl := hy.2
        obtain ⟨z, hz⟩ : ∃ z, z = f.getD k 0 := ⟨_, rfl⟩
        rw [← hz] at c1 hset hcnt
        obtain ⟨q, hq⟩ : ∃ q : Nat, q = img.idxOf z := ⟨_, rfl⟩
        rw [← hq] at hset hcnt
        have hapq : Hid (Sl (wr.setCell ⟨w1.heap.size, k, none⟩ (.int .i64 (q : Int))) w.heap.size (.slice (some ⟨gi, 0, none⟩) img.length capi) img) := sl_kept hy hset.2 (apart_ne (u := .slice (some ⟨w1.heap.size, 0, none⟩) f.length f.length) HAP.out)
        have HSET := Lib.hid hset; have HCNT := Lib.hid hcnt; have HYC := Lib.hid hyc; clear hset hcnt hyc hx hy hz hq hmem hcell hfi
        generalize (quoL img (f.take k) ++ List.replicate (f.length - k) 0).getD k 0 = zz at c3
        go_wp2_with fail
        refine (Try.slices_BinarySearch_int gi 0 img.length capi img z _ (Nat.le_refl _) (by omega) HYC.out (by rw [List.take_length]; exact asc_le HASC.out)).mono ?_
        rw [List.take_length, HCNT.out]
        rintro e w3 ⟨rfl, dn, rfl⟩
        have c3' : (wr.drewN dn).cell? ⟨w1.heap.size, k, none⟩ = some (.int .i64 zz) := c3
        have c4' : (wr.drewN dn).frozen? ⟨w1.heap.size, k, none⟩ = false := c4
        have hset2 : Hid (Sl ((wr.drewN dn).setCell ⟨w1.heap.size, k, none⟩ (.int .i64 (q : Int))) w.heap.size (.slice (some ⟨w1.heap.size, 0, none⟩) f.length f.length) (quoL img (f.take (k + 1)) ++ List.replicate (f.length - (k + 1)) 0)) := HSET.out.1
        have hap2 : Hid (Sl ((wr.drewN dn).setCell ⟨w1.heap.size, k, none⟩ (.int .i64 (q : Int))) w.heap.size (.slice (some ⟨gi, 0, none⟩) img.length capi) img) := hapq.out
        have hbel2 : Below w.heap.size w (wr.drewN dn) := below_quiet hbel
        clear hapq HSET c3 c4 hbel c1 HYC
        generalize wr.drewN dn = w4 at c3' c4' hset2 hap2 hbel2 ⊢
        go_wp2
        go_roundw
        case rel => exact ⟨k + 1, by omega, by go_num, hset2.out, hap2.out, hbel2.setCell hb1.size _⟩
        case measure => simp [intOf]; omega
      · obtain rfl : k = f.length := by omega
        have hx' : Sl wr w.heap.size (.slice (some ⟨w1.heap.size, 0, none⟩) f.length f.length) (quoL img f) := by simpa using hx
        clear hx
        go_wp2
        go_ret3
        exact ⟨_, _, rfl, hx', hy, HAP.out.symm, hbel⟩
  · have hfi : fImageOf n f = ([], c) := by rw [fImageOf, if_neg (by rw [hc]; exact h0), hc]
    have HFI := Lib.hid hfi; clear hc hfi
    rw [if_neg h0]
    have hne : (c != 0) = true := by simpa using h0
    clear h0
    go_enter Try.func40, Try.ntmps40
    go_wp2_with fail
    refine (impl_ImageOf _ n _ f h).mono ?_; rw [HFI.out]; rintro e w1 ⟨y, rfl, hsi, hb1⟩
    go_wp2
    go_ret3
    exact retLLI_nil hb1

end Go.Proofs.Ytfnneogadciimab
