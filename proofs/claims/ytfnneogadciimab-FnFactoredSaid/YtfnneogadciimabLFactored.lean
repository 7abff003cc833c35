
/- The law of FactorMap on drawn maps: a map is its quotient followed by its image, and has the kernel of the quotient. -/
import Derived.Test.YtfnneogadciimabAlike
import Derived.Test.YtfnneogadciimabFactM
set_option linter.unusedSimpArgs false
set_option linter.unusedVariables false
set_option linter.unusedSectionVars false
namespace Go.Proofs.Ytfnneogadciimab.fnFactored
open Go.ChangeShapes Go.WideShapes Go.ChangeAt Go.RowKit

theorem form_of {w : World} {v : Value} {xs : List Int} (h : Rd w v xs) : ∃ (a : Option Addr) (cap : Nat), v = .slice a xs.length cap ∧ True := by
  obtain ⟨a, cap, hv, _⟩ := h
  exact ⟨a, cap, hv, trivial⟩

set_option maxHeartbeats 800000 in
set_option maxRecDepth 100000 in
theorem draw_any (w : World) (v : Value) (h : InB w v) :
    Calls Try.prog 39 #[v] w (fun e w' => ∃ (n : Int) (xs : List Int) (y : Value), e = .returned (.tuple #[.int .i64 n, y]) ∧ Sl w' w.heap.size y xs ∧ xs.length ≤ 301 ∧ CountP n ∧ Below w.heap.size w w') := by
  go_enter Try.func39, Try.ntmps39
  go_wp2_with fail
  refine (one_any _ _ h).mono ?_; rintro e w1 ⟨n, xs, y, rfl, hs, hl, hn, hb⟩
  go_wp2
  go_ret2
  exact ⟨n, xs, y, rfl, hs, hl, hn, hb⟩

set_option maxHeartbeats 1600000 in
set_option maxRecDepth 100000 in
theorem walk (w : World) (v : Value) (h : InB w v) : Calls Try.prog 9 #[v] w (RetB w true) := by
  have h0 := h
  obtain ⟨ca, clen, ccap, rfl, _⟩ := h0
  go_enter Try.func9, Try.ntmps9
  go_wp2_with fail
  refine (big_any _ _ h).mono ?_; rintro e w1 ⟨⟨bg, rfl⟩, hb⟩
  cases bg
  · go_wp2_with fail
    refine (draw_any _ _ (inb_below hb h)).mono ?_; rintro e w2 ⟨n, f, y, rfl, hs, hl, hcn, hb2⟩
    obtain ⟨fa, fcap, rfl, _⟩ := sl_form hs
    have Rf := hs.rd; clear hs h
    replace hb := hb.trans (hb2.mono hb.size)
    clear hb2
    obtain ⟨c, hc⟩ : ∃ c, c = codeM n f := ⟨_, rfl⟩
    by_cases h0 : c = 0
    · subst h0
      have hfm : fFactorMap n f = (quoL (imgL n.toNat f) f, imgL n.toNat f, 0) := by rw [fFactorMap, if_pos hc.symm]
      have hfk : fKernelOf n f = (clsOf f, 0) := by rw [fKernelOf, if_pos hc.symm]
      have hfi : fImageOf n f = (imgL n.toNat f, 0) := by rw [fImageOf, if_pos hc.symm]
      obtain ⟨img, himg⟩ : ∃ img, imgL n.toNat f = img := ⟨_, rfl⟩
      obtain ⟨h1, h2, h3⟩ := fact_all hc.symm himg
      rw [himg] at hfm hfi
      have hp : fIsPartition (clsOf f) = true := decide_eq_true (cls_part (codeM_map hc.symm).2.1)
      have hli : img.length ≤ 256 := by rw [← himg]; have := upTo_len_le n.toNat n.toNat f; have := (codeM_map hc.symm).1; unfold SizeP at this; unfold imgL; omega
      obtain ⟨q, hq⟩ : ∃ q, quoL img f = q := ⟨_, rfl⟩
      rw [hq] at hfm h1 h2 h3
      have hfk2 : fKernelOf img.length q = (clsOf f, 0) := by rw [fKernelOf, if_pos h1, h2]
      have FI := fun (w : World) (v : Value) (k : Rd w v f) => impl_FactorMap w n v f k
      have FS := fun (w : World) (v : Value) (k : Rd w v f) => spec_FactorMap w n v f k
      have FK := fun (w : World) (v : Value) (k : Rd w v f) => impl_KernelOf w n v f k
      have FK2 := fun (w : World) (v : Value) (k : Rd w v q) => impl_KernelOf w img.length v q k
      have FG := fun (w : World) (v : Value) (k : Rd w v f) => impl_ImageOf w n v f k
      have FT := fun (w : World) (v u : Value) (k : Rd w v q) (k2 : Rd w u img) => impl_ThenMaps w img.length v q n u img k k2
      have FP := fun (w : World) (v : Value) (k : Rd w v (clsOf f)) => impl_IsPartition w v (clsOf f) k
      simp only [hfm] at FI FS
      simp only [hfk] at FK
      simp only [hfk2] at FK2
      simp only [hfi] at FG
      simp only [h3] at FT
      simp only [hp] at FP
      replace FI := Lib.hid FI; replace FS := Lib.hid FS; replace FK := Lib.hid FK; replace FK2 := Lib.hid FK2; replace FG := Lib.hid FG; replace FT := Lib.hid FT; replace FP := Lib.hid FP
      obtain ⟨cl, hcl⟩ : ∃ cl, clsOf f = cl := ⟨_, rfl⟩
      rw [hcl] at FK FK2 FP
      clear hc hfm hfk hfi h1 h2 h3 himg hp hq hfk2 hcl hcn hl
      go_wp2_with fail
      refine (FI.out _ _ Rf).mono ?_
      rintro e1 u1 ⟨yq, yi, rfl, Sq, Si, _, hn1⟩
      replace Rf := rd_below hn1 Rf
      have Rq := Sq.rd; clear Sq
      have Ri := Si.rd; clear Si
      replace hb := hb.trans (hn1.mono hb.size)
      clear hn1
      go_wp2_with fail
      refine (FS.out _ _ Rf).mono ?_
      rintro e2 u2 ⟨ya, yb, rfl, Sa, Sb, _, hn2⟩
      replace Rf := rd_below hn2 Rf
      replace Rq := rd_below hn2 Rq
      replace Ri := rd_below hn2 Ri
      have Ra := Sa.rd; clear Sa
      have Rb := Sb.rd; clear Sb
      replace hb := hb.trans (hn2.mono hb.size)
      clear hn2
      obtain ⟨ba, bcap, rfl, _⟩ := form_of Rb
      go_wp2_with fail
      refine (like_refl_any _ _ _ q Rq Ra).mono ?_
      rintro e3 u3 ⟨rfl, hn3⟩
      replace Rf := rd_below hn3 Rf
      replace Rq := rd_below hn3 Rq
      replace Ri := rd_below hn3 Ri
      replace Ra := rd_below hn3 Ra
      replace Rb := rd_below hn3 Rb
      replace hb := hb.trans (hn3.mono hb.size)
      clear hn3
      go_wp2_with fail
      refine (like_refl_any _ _ _ img Ri Rb).mono ?_
      rintro e4 u4 ⟨rfl, hn4⟩
      replace Rf := rd_below hn4 Rf
      replace Rq := rd_below hn4 Rq
      replace Ri := rd_below hn4 Ri
      replace Ra := rd_below hn4 Ra
      replace Rb := rd_below hn4 Rb
      replace hb := hb.trans (hn4.mono hb.size)
      clear hn4
      go_wp2_with fail
      refine (FK.out _ _ Rf).mono ?_
      rintro e5 u5 ⟨yk, rfl, Sk, hn5⟩
      replace Rf := rd_below hn5 Rf
      replace Rq := rd_below hn5 Rq
      replace Ri := rd_below hn5 Ri
      replace Ra := rd_below hn5 Ra
      replace Rb := rd_below hn5 Rb
      have Rk := Sk.rd; clear Sk
      replace hb := hb.trans (hn5.mono hb.size)
      clear hn5
      go_wp2_with fail
      refine (FK2.out _ _ Ra).mono ?_
      rintro e6 u6 ⟨yl, rfl, Sl, hn6⟩
      replace Rf := rd_below hn6 Rf
      replace Rq := rd_below hn6 Rq
      replace Ri := rd_below hn6 Ri
      replace Ra := rd_below hn6 Ra
      replace Rb := rd_below hn6 Rb
      replace Rk := rd_below hn6 Rk
      have Rl := Sl.rd; clear Sl
      replace hb := hb.trans (hn6.mono hb.size)
      clear hn6
      go_wp2_with fail
      refine (FG.out _ _ Rf).mono ?_
      rintro e7 u7 ⟨ym, rfl, Sm, hn7⟩
      replace Rf := rd_below hn7 Rf
      replace Rq := rd_below hn7 Rq
      replace Ri := rd_below hn7 Ri
      replace Ra := rd_below hn7 Ra
      replace Rb := rd_below hn7 Rb
      replace Rk := rd_below hn7 Rk
      replace Rl := rd_below hn7 Rl
      have Rm := Sm.rd; clear Sm
      replace hb := hb.trans (hn7.mono hb.size)
      clear hn7
      go_wp2_with fail
      refine (FT.out _ _ _ Ra Rb).mono ?_
      rintro e8 u8 ⟨yg, rfl, Sg, hn8⟩
      replace Rf := rd_below hn8 Rf
      replace Rq := rd_below hn8 Rq
      replace Ri := rd_below hn8 Ri
      replace Ra := rd_below hn8 Ra
      replace Rb := rd_below hn8 Rb
      replace Rk := rd_below hn8 Rk
      replace Rl := rd_below hn8 Rl
      replace Rm := rd_below hn8 Rm
      have Rg := Sg.rd; clear Sg
      replace hb := hb.trans (hn8.mono hb.size)
      clear hn8
      go_wp2_with fail
      refine (like_refl_any _ _ _ cl Rk Rl).mono ?_
      rintro e9 u9 ⟨rfl, hn9⟩
      replace Rf := rd_below hn9 Rf
      replace Rq := rd_below hn9 Rq
      replace Ri := rd_below hn9 Ri
      replace Ra := rd_below hn9 Ra
      replace Rb := rd_below hn9 Rb
      replace Rk := rd_below hn9 Rk
      replace Rl := rd_below hn9 Rl
      replace Rm := rd_below hn9 Rm
      replace Rg := rd_below hn9 Rg
      replace hb := hb.trans (hn9.mono hb.size)
      clear hn9
      go_wp2_with fail
      refine (like_refl_any _ _ _ img Rm Rb).mono ?_
      rintro e10 u10 ⟨rfl, hn10⟩
      replace Rf := rd_below hn10 Rf
      replace Rq := rd_below hn10 Rq
      replace Ri := rd_below hn10 Ri
      replace Ra := rd_below hn10 Ra
      replace Rb := rd_below hn10 Rb
      replace Rk := rd_below hn10 Rk
      replace Rl := rd_below hn10 Rl
      replace Rm := rd_below hn10 Rm
      replace Rg := rd_below hn10 Rg
      replace hb := hb.trans (hn10.mono hb.size)
      clear hn10
      go_wp2_with fail
      refine (like_refl_any _ _ _ f Rg Rf).mono ?_
      rintro e11 u11 ⟨rfl, hn11⟩
      replace Rf := rd_below hn11 Rf
      replace Rq := rd_below hn11 Rq
      replace Ri := rd_below hn11 Ri
      replace Ra := rd_below hn11 Ra
      replace Rb := rd_below hn11 Rb
      replace Rk := rd_below hn11 Rk
      replace Rl := rd_below hn11 Rl
      replace Rm := rd_below hn11 Rm
      replace Rg := rd_below hn11 Rg
      replace hb := hb.trans (hn11.mono hb.size)
      clear hn11
      go_wp2_with fail
      refine (FP.out _ _ Rk).mono ?_
      rintro e12 u12 ⟨rfl, hn12⟩
      replace Rf := rd_below hn12 Rf
      replace Rq := rd_below hn12 Rq
      replace Ri := rd_below hn12 Ri
      replace Ra := rd_below hn12 Ra
      replace Rb := rd_below hn12 Rb
      replace Rk := rd_below hn12 Rk
      replace Rl := rd_below hn12 Rl
      replace Rm := rd_below hn12 Rm
      replace Rg := rd_below hn12 Rg
      replace hb := hb.trans (hn12.mono hb.size)
      clear hn12
      go_wp2
      go_ret
      exact ⟨rfl, hb⟩
    · have hfm : fFactorMap n f = ([], [], c) := by rw [fFactorMap, if_neg (by rw [← hc]; exact h0), hc]
      have hm : fIsMap n f = false := decide_eq_false fun hm => h0 (by rw [hc, codeM, if_pos hm.1, if_pos hm])
      have FI := fun (w : World) (v : Value) (k : Rd w v f) => impl_FactorMap w n v f k
      have FS := fun (w : World) (v : Value) (k : Rd w v f) => spec_FactorMap w n v f k
      have FM := fun (w : World) (v : Value) (k : Rd w v f) => impl_IsMap w n v f k
      simp only [hfm] at FI FS
      simp only [hm] at FM
      replace FI := Lib.hid FI; replace FS := Lib.hid FS; replace FM := Lib.hid FM
      have hne : (c != 0) = true := by simpa using h0
      clear hc hfm hm hcn hl h0
      go_wp2_with fail
      refine (FI.out _ _ Rf).mono ?_
      rintro e13 u13 ⟨yq, yi, rfl, Sq, Si, _, hn13⟩
      replace Rf := rd_below hn13 Rf
      have Rq := Sq.rd; clear Sq
      have Ri := Si.rd; clear Si
      replace hb := hb.trans (hn13.mono hb.size)
      clear hn13
      go_wp2_with fail
      refine (FS.out _ _ Rf).mono ?_
      rintro e14 u14 ⟨ya, yb, rfl, Sa, Sb, _, hn14⟩
      replace Rf := rd_below hn14 Rf
      replace Rq := rd_below hn14 Rq
      replace Ri := rd_below hn14 Ri
      have Ra := Sa.rd; clear Sa
      have Rb := Sb.rd; clear Sb
      replace hb := hb.trans (hn14.mono hb.size)
      clear hn14
      go_wp2_with fail
      refine (like_refl_any _ _ _ [] Rq Ra).mono ?_
      rintro e15 u15 ⟨rfl, hn15⟩
      replace Rf := rd_below hn15 Rf
      replace Rq := rd_below hn15 Rq
      replace Ri := rd_below hn15 Ri
      replace Ra := rd_below hn15 Ra
      replace Rb := rd_below hn15 Rb
      replace hb := hb.trans (hn15.mono hb.size)
      clear hn15
      go_wp2_with fail
      refine (like_refl_any _ _ _ [] Ri Rb).mono ?_
      rintro e16 u16 ⟨rfl, hn16⟩
      replace Rf := rd_below hn16 Rf
      replace Rq := rd_below hn16 Rq
      replace Ri := rd_below hn16 Ri
      replace Ra := rd_below hn16 Ra
      replace Rb := rd_below hn16 Rb
      replace hb := hb.trans (hn16.mono hb.size)
      clear hn16
      go_wp2_with fail
      refine (FM.out _ _ Rf).mono ?_
      rintro e17 u17 ⟨rfl, hn17⟩
      replace Rf := rd_below hn17 Rf
      replace Rq := rd_below hn17 Rq
      replace Ri := rd_below hn17 Ri
      replace Ra := rd_below hn17 Ra
      replace Rb := rd_below hn17 Rb
      replace hb := hb.trans (hn17.mono hb.size)
      clear hn17
      go_wp2
      go_ret
      exact ⟨rfl, hb⟩
  · go_wp2
    go_ret
    exact ⟨rfl, hb⟩

set_option maxRecDepth 100000 in
theorem lifted (os : Os) (started : os.Started) (H : Type) (enc : TypeId × Value → H) :
    ReturnsInHanded {} Try.checked os 9 .any (Rows.fnFactoredSpec.pre6 enc Try.prog Try.f9 Rows.fnFactoredRow.domain false) (Rows.fnFactoredSpec.post enc Try.prog Try.f9 false true false false) := by
  refine returnsInHanded_of_change (C := Try.checked) own started (by kernel_rfl) Try.func9
    (ChangeSpec.witness6 (enc := enc) (C := Try.checked) false ⟨#[], #[.slice none 0 0], []⟩ 8 (by kernel_rfl) (by kernel_rfl) (by kernel_rfl) (by kernel_rfl)) ?_
  intro W base args ds gs before hval0 hW _ _
  have hval : ∀ (j : Nat) t v, Try.f9.params[j]? = some t → args[j]? = some v → Value.okWide Try.prog W .any base t v := hval0
  have hW' := hW
  obtain ⟨p, q, hA0, hV, rfl, _, _⟩ := hW
  have hA : DataW.TrodAll enc Try.prog W 0 (fun _ => true) true Try.f9.params.toList args.toList ds p := hA0
  rw [Try.params9] at hA hval
  obtain ⟨v0, vs0, d0, ds0, p0, q0, hargs, rfl, rfl, t0, s0⟩ := trodAll_cons hA
  obtain ⟨rfl, rfl, rfl⟩ := trodAll_nil s0
  obtain rfl : args = #[v0] := by cases args; simp_all
  obtain ⟨rfl, rfl⟩ := trodVars_none hV
  have h0 := open_inb (hval 0 51 v0 rfl rfl) t0
  clear hA0 hval0
  refine (walk W v0 h0).mono fun e W' ⟨he, hg⟩ => ?_
  subst he
  exact ⟨_, rfl, law_post rfl (by kernel_rfl) hW' (by kernel_rfl) rfl rfl rfl hg⟩

theorem over : Rows.fnFactoredRow.holds Try.pinned (OpenSpec.ofChange Rows.fnFactoredSpec) :=
  OpenClaim.holds_of_wide 9 Try.f9 rfl rfl rfl rfl rfl rfl rfl ⟨rfl, rfl, rfl, rfl, rfl⟩ rfl rfl rfl rfl rfl (by kernel_rfl) Try.func9 (by kernel_rfl)
    (of_decide_eq_true (by kernel_rfl)) (by unfold Func.isWrapper; first | (rw [if_pos (by decide +kernel)]; kernel_rfl) | (rw [if_neg (by decide +kernel)]; exact ⟨rfl, rfl⟩))
    (fun os started H enc _ => lifted os started H enc)

theorem proved : Rows.FnFactoredSaid := over
end Go.Proofs.Ytfnneogadciimab.fnFactored
