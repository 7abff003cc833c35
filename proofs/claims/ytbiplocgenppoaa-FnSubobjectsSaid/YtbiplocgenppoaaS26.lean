import Derived.Test.YtbiplocgenppoaaS4
import Derived.Test.YtbiplocgenppoaaS19
import Derived.Test.YtbiplocgenppoaaS25
import Derived.Test.YtbiplocgenppoaaS11
import Derived.Test.YtbiplocgenppoaaS24
set_option maxHeartbeats 8000000
set_option maxRecDepth 100000
set_option linter.unusedSimpArgs false
set_option linter.unusedVariables false
set_option linter.unusedSectionVars false
namespace Go.Proofs.Ytbiplocgenppoaa
open _root_.Go.Proofs.Try
open Go.RowKit
theorem rep_app (k : Nat) {α : Type} (x : α) : List.replicate k x ++ [x] = List.replicate (k + 1) x := by rw [List.replicate_succ']
theorem ones_pre {n : Nat} (h : n = 1 ∨ n = 2 ∨ n = 3) : PreP (List.replicate n (List.replicate n (1 : Int))) ∧ SquareP (List.replicate n (List.replicate n (1 : Int))) 2 := by
 rcases h with rfl | rfl | rfl <;> exact ⟨pre_of rfl, sq_of rfl⟩
def UpL (n : Nat) (fr to : List Int) : Prop := to.length = fr.length ∧ ∀ e : Nat, e < fr.length → 0 ≤ at0 fr (e : Int) ∧ at0 fr (e : Int) < at0 to (e : Int) ∧ at0 to (e : Int) < n
theorem up_zero (n : Nat) : UpL n [] [] := ⟨rfl, fun e he => absurd he (by simp)⟩
theorem up_app {n : Nat} {fr to : List Int} (h : UpL n fr to) {x y : Int} (x0 : 0 ≤ x) (hxy : x < y) (hy : y < n) : UpL n (fr ++ [x]) (to ++ [y]) := by
 obtain ⟨hl, h2⟩ := h
 refine ⟨by simp [hl], fun e he => ?_⟩
 rcases Nat.lt_or_ge e fr.length with h3 | h3
 ·have a1 : at0 (fr ++ [x]) (e : Int) = at0 fr (e : Int) := by rw [at0_nat, at0_nat, List.getD_eq_getElem?_getD, List.getD_eq_getElem?_getD, List.getElem?_append_left h3]
  have a2 : at0 (to ++ [y]) (e : Int) = at0 to (e : Int) := by rw [at0_nat, at0_nat, List.getD_eq_getElem?_getD, List.getD_eq_getElem?_getD, List.getElem?_append_left (by omega)]
  rw [a1, a2]; exact h2 e h3
 obtain rfl : e = fr.length := by simp at he; omega
 have a1 : at0 (fr ++ [x]) (fr.length : Int) = x := by rw [at0_nat, List.getD_eq_getElem?_getD, List.getElem?_append_right (Nat.le_refl _)]; simp
 have a2 : at0 (to ++ [y]) (fr.length : Int) = y := by rw [← hl, at0_nat, List.getD_eq_getElem?_getD, List.getElem?_append_right (Nat.le_refl _)]; simp
 rw [a1, a2]; exact ⟨x0, hxy, hy⟩
theorem specMond_any (w0 w : World) (ca : Option Addr) (cl cc g : Nat) (F : List Itm) (hI : InB w0 (.slice ca cl cc)) (M : Mem w0 w [srcI ca cl cc g, tailI F]) :
  Calls Try.prog 99 #[.pointer (some ⟨g, 0, none⟩)] w (RetM w0 (srcI ca cl cc g) F (fun x : List (List Int) × Option Addr × Nat × List Value => 0 < x.1.length ∧ SquareP x.1 x.1.length ∧ x.1.length ≤ 4) (fun x => .slice x.2.1 x.1.length x.2.2.1) (fun x => [own2U (.slice x.2.1 x.1.length x.2.2.1) x.2.2.2 x.1])) := by
 go_enter func99, Try.ntmps99
 refine gc_enterM M (N := 48) rfl (look_cons (k := 0) rfl (look_nil _)) ?_
 clear M
 refine gc_sr fun K1 hK1 => ?_
 refine gas ?_
 refine gnt (hK1 _ _ ?_)
 refine gc_seq fun K2 hK2 => ?_
 refine gc_sr fun K3 hK3 => ?_
 refine gm ?_
 refine gop fun K5 hK5 => ?_
 refine go_srcNext (n := 0) rfl rfl rfl func51 rfl (by decide) rfl hI rfl (by omega) ?_
 intro r4 hs4
 refine hK5 _ _ ?_
 refine gnt (hK3 _ _ ?_)
 refine gc_block ?_
 refine gc_sr fun K6 hK6 => ?_
 refine gv (qt_eql rfl rfl rfl) ?_
 refine gas ?_
 refine gnt (hK6 _ _ ?_)
 refine gc_cond rfl (fun hc0 => ?_) (fun hc0 => ?_)
 ·try simp only [sA] at hc0
  refine gc_sr fun K7 hK7 => ?_
  refine gop fun K9 hK9 => ?_
  refine go_slice1 rfl rfl rfl rfl underlying24 ?_
  intro B8
  refine hK9 _ _ ?_
  refine gop fun K11 hK11 => ?_
  refine go_sliceR1 (m := 2) rfl rfl rfl rfl underlying25 rfl ?_
  intro B10
  refine hK11 _ _ ?_
  refine gas ?_
  refine gnt (hK7 _ _ ?_)
  refine gc_ret ?_
  refine gk_block_ret ?_
  refine gk_then_ret ?_
  refine ret_1 rfl rfl  (fun w M => ?_)
  exact ⟨([[0]], _, _, _), ⟨by simp, sq_of rfl, by simp⟩, rfl, M⟩
 try simp only [sA] at hc0
 refine gc_sr fun K12 hK12 => ?_
 refine gv (qt_eql rfl rfl rfl) ?_
 refine gas ?_
 refine gnt (hK12 _ _ ?_)
 refine gc_cond rfl (fun hc1 => ?_) (fun hc1 => ?_)
 ·try simp only [sA] at hc1
  refine gc_sr fun K13 hK13 => ?_
  refine gop fun K15 hK15 => ?_
  refine go_slice2 rfl rfl rfl rfl rfl underlying24 ?_
  intro B14
  refine hK15 _ _ ?_
  refine gop fun K17 hK17 => ?_
  refine go_slice2 rfl rfl rfl rfl rfl underlying24 ?_
  intro B16
  refine hK17 _ _ ?_
  refine gop fun K19 hK19 => ?_
  refine go_sliceR2L (L := [_, _]) rfl rfl rfl rfl rfl underlying25 rfl ?_
  intro B18
  refine hK19 _ _ ?_
  refine gas ?_
  refine gnt (hK13 _ _ ?_)
  refine gc_ret ?_
  refine gk_block_ret ?_
  refine gk_then_ret ?_
  refine ret_1 rfl rfl  (fun w M => ?_)
  exact ⟨([[0, 1], [1, 0]], _, _, _), ⟨by simp, sq_of rfl, by simp⟩, rfl, M⟩
 try simp only [sA] at hc1
 refine gc_sr fun K20 hK20 => ?_
 refine gv (qt_eql rfl rfl rfl) ?_
 refine gas ?_
 refine gnt (hK20 _ _ ?_)
 refine gc_cond rfl (fun hc2 => ?_) (fun hc2 => ?_)
 ·try simp only [sA] at hc2
  refine gc_sr fun K21 hK21 => ?_
  refine gop fun K23 hK23 => ?_
  refine go_slice2 rfl rfl rfl rfl rfl underlying24 ?_
  intro B22
  refine hK23 _ _ ?_
  refine gop fun K25 hK25 => ?_
  refine go_slice2 rfl rfl rfl rfl rfl underlying24 ?_
  intro B24
  refine hK25 _ _ ?_
  refine gop fun K27 hK27 => ?_
  refine go_sliceR2L (L := [_, _]) rfl rfl rfl rfl rfl underlying25 rfl ?_
  intro B26
  refine hK27 _ _ ?_
  refine gas ?_
  refine gnt (hK21 _ _ ?_)
  refine gc_ret ?_
  refine gk_block_ret ?_
  refine gk_then_ret ?_
  refine ret_1 rfl rfl  (fun w M => ?_)
  exact ⟨([[0, 1], [1, 1]], _, _, _), ⟨by simp, sq_of rfl, by simp⟩, rfl, M⟩
 try simp only [sA] at hc2
 refine gc_sr fun K28 hK28 => ?_
 refine gv (qt_eql rfl rfl rfl) ?_
 refine gas ?_
 refine gnt (hK28 _ _ ?_)
 refine gc_cond rfl (fun hc3 => ?_) (fun hc3 => ?_)
 ·try simp only [sA] at hc3
  refine gc_sr fun K29 hK29 => ?_
  refine gop fun K31 hK31 => ?_
  refine go_slice3I rfl rfl rfl rfl rfl rfl underlying24 ?_
  intro B30
  refine hK31 _ _ ?_
  refine gop fun K33 hK33 => ?_
  refine go_slice3I rfl rfl rfl rfl rfl rfl underlying24 ?_
  intro B32
  refine hK33 _ _ ?_
  refine gop fun K35 hK35 => ?_
  refine go_slice3I rfl rfl rfl rfl rfl rfl underlying24 ?_
  intro B34
  refine hK35 _ _ ?_
  refine gop fun K37 hK37 => ?_
  refine go_sliceR3L (L := [_, _]) rfl rfl rfl rfl rfl rfl underlying25 rfl ?_
  intro B36
  refine hK37 _ _ ?_
  refine gas ?_
  refine gnt (hK29 _ _ ?_)
  refine gc_ret ?_
  refine gk_block_ret ?_
  refine gk_then_ret ?_
  refine ret_1 rfl rfl  (fun w M => ?_)
  exact ⟨([[0, 1, 2], [1, 2, 0], [2, 0, 1]], _, _, _), ⟨by simp, sq_of rfl, by simp⟩, rfl, M⟩
 try simp only [sA] at hc3
 refine gc_sr fun K38 hK38 => ?_
 refine gv (qt_eql rfl rfl rfl) ?_
 refine gas ?_
 refine gnt (hK38 _ _ ?_)
 refine gc_cond rfl (fun hc4 => ?_) (fun hc4 => ?_)
 ·try simp only [sA] at hc4
  refine gc_sr fun K39 hK39 => ?_
  refine gop fun K41 hK41 => ?_
  refine go_slice3I rfl rfl rfl rfl rfl rfl underlying24 ?_
  intro B40
  refine hK41 _ _ ?_
  refine gop fun K43 hK43 => ?_
  refine go_slice3I rfl rfl rfl rfl rfl rfl underlying24 ?_
  intro B42
  refine hK43 _ _ ?_
  refine gop fun K45 hK45 => ?_
  refine go_slice3I rfl rfl rfl rfl rfl rfl underlying24 ?_
  intro B44
  refine hK45 _ _ ?_
  refine gop fun K47 hK47 => ?_
  refine go_sliceR3L (L := [_, _]) rfl rfl rfl rfl rfl rfl underlying25 rfl ?_
  intro B46
  refine hK47 _ _ ?_
  refine gas ?_
  refine gnt (hK39 _ _ ?_)
  refine gc_ret ?_
  refine gk_block_ret ?_
  refine gk_then_ret ?_
  refine ret_1 rfl rfl  (fun w M => ?_)
  exact ⟨([[0, 1, 2], [1, 1, 2], [2, 2, 2]], _, _, _), ⟨by simp, sq_of rfl, by simp⟩, rfl, M⟩
 try simp only [sA] at hc4
 refine gc_sr fun K48 hK48 => ?_
 refine gv (qt_eql rfl rfl rfl) ?_
 refine gas ?_
 refine gnt (hK48 _ _ ?_)
 refine gc_cond rfl (fun hc5 => ?_) (fun hc5 => ?_)
 ·try simp only [sA] at hc5
  refine gc_sr fun K49 hK49 => ?_
  refine gop fun K51 hK51 => ?_
  refine go_slice3I rfl rfl rfl rfl rfl rfl underlying24 ?_
  intro B50
  refine hK51 _ _ ?_
  refine gop fun K53 hK53 => ?_
  refine go_slice3I rfl rfl rfl rfl rfl rfl underlying24 ?_
  intro B52
  refine hK53 _ _ ?_
  refine gop fun K55 hK55 => ?_
  refine go_slice3I rfl rfl rfl rfl rfl rfl underlying24 ?_
  intro B54
  refine hK55 _ _ ?_
  refine gop fun K57 hK57 => ?_
  refine go_sliceR3L (L := [_, _]) rfl rfl rfl rfl rfl rfl underlying25 rfl ?_
  intro B56
  refine hK57 _ _ ?_
  refine gas ?_
  refine gnt (hK49 _ _ ?_)
  refine gc_ret ?_
  refine gk_block_ret ?_
  refine gk_then_ret ?_
  refine ret_1 rfl rfl  (fun w M => ?_)
  exact ⟨([[0, 1, 2], [1, 1, 2], [2, 1, 2]], _, _, _), ⟨by simp, sq_of rfl, by simp⟩, rfl, M⟩
 try simp only [sA] at hc5
 refine gc_sr fun K58 hK58 => ?_
 refine gv (qt_eql rfl rfl rfl) ?_
 refine gas ?_
 refine gnt (hK58 _ _ ?_)
 refine gc_cond rfl (fun hc6 => ?_) (fun hc6 => ?_)
 ·try simp only [sA] at hc6
  refine gc_sr fun K59 hK59 => ?_
  refine gop fun K61 hK61 => ?_
  refine go_slice4I rfl rfl rfl rfl rfl rfl rfl underlying24 ?_
  intro B60
  refine hK61 _ _ ?_
  refine gop fun K63 hK63 => ?_
  refine go_slice4I rfl rfl rfl rfl rfl rfl rfl underlying24 ?_
  intro B62
  refine hK63 _ _ ?_
  refine gop fun K65 hK65 => ?_
  refine go_slice4I rfl rfl rfl rfl rfl rfl rfl underlying24 ?_
  intro B64
  refine hK65 _ _ ?_
  refine gop fun K67 hK67 => ?_
  refine go_slice4I rfl rfl rfl rfl rfl rfl rfl underlying24 ?_
  intro B66
  refine hK67 _ _ ?_
  refine gop fun K69 hK69 => ?_
  refine go_sliceR4L (L := [_, _]) rfl rfl rfl rfl rfl rfl rfl underlying25 rfl ?_
  intro B68
  refine hK69 _ _ ?_
  refine gas ?_
  refine gnt (hK59 _ _ ?_)
  refine gc_ret ?_
  refine gk_block_ret ?_
  refine gk_then_ret ?_
  refine ret_1 rfl rfl  (fun w M => ?_)
  exact ⟨([[0, 1, 2, 3], [1, 0, 2, 3], [2, 3, 2, 3], [3, 2, 2, 3]], _, _, _), ⟨by simp, sq_of rfl, by simp⟩, rfl, M⟩
 try simp only [sA] at hc6
 refine gc_skip ?_
 refine gk_block ?_
 refine gk_then (hK2 _ _ ?_)
 refine gc_sr fun K70 hK70 => ?_
 refine gop fun K72 hK72 => ?_
 refine go_slice3I rfl rfl rfl rfl rfl rfl underlying24 ?_
 intro B71
 refine hK72 _ _ ?_
 refine gop fun K74 hK74 => ?_
 refine go_slice3I rfl rfl rfl rfl rfl rfl underlying24 ?_
 intro B73
 refine hK74 _ _ ?_
 refine gop fun K76 hK76 => ?_
 refine go_slice3I rfl rfl rfl rfl rfl rfl underlying24 ?_
 intro B75
 refine hK76 _ _ ?_
 refine gop fun K78 hK78 => ?_
 refine go_sliceR3L (L := [_, _]) rfl rfl rfl rfl rfl rfl underlying25 rfl ?_
 intro B77
 refine hK78 _ _ ?_
 refine gas ?_
 refine gnt (hK70 _ _ ?_)
 refine gc_ret ?_
 refine ret_1 rfl rfl  (fun w M => ?_)
 exact ⟨([[0, 1, 2], [1, 2, 2], [2, 2, 2]], _, _, _), ⟨by simp, sq_of rfl, by simp⟩, rfl, M⟩
theorem specSplit_any (w : World) (_ : Unit) :
  Calls Try.prog 100 #[] w (RetC w splitC) := by
 go_enter func100, Try.ntmps100
 refine gc_enter (N := 11) rfl (look_nil _) ?_
 refine gc_sr fun K1 hK1 => ?_
 refine gop fun K3 hK3 => ?_
 refine galC ?_
 intro B2
 refine hK3 _ _ ?_
 refine gnt (hK1 _ _ ?_)
 refine gc_sr fun K4 hK4 => ?_
 refine gop fun K6 hK6 => ?_
 refine go_slice5I rfl rfl rfl rfl rfl rfl rfl rfl underlying24 ?_
 intro B5
 refine hK6 _ _ ?_
 refine gop fun K8 hK8 => ?_
 refine go_slice5I rfl rfl rfl rfl rfl rfl rfl rfl underlying24 ?_
 intro B7
 refine hK8 _ _ ?_
 refine gop fun K10 hK10 => ?_
 refine go_slice2 rfl rfl rfl rfl rfl underlying24 ?_
 intro B9
 refine hK10 _ _ ?_
 refine gop fun K12 hK12 => ?_
 refine go_slice5I rfl rfl rfl rfl rfl rfl rfl rfl underlying24 ?_
 intro B11
 refine hK12 _ _ ?_
 refine gop fun K14 hK14 => ?_
 refine go_slice5I rfl rfl rfl rfl rfl rfl rfl rfl underlying24 ?_
 intro B13
 refine hK14 _ _ ?_
 refine gop fun K16 hK16 => ?_
 refine go_slice5I rfl rfl rfl rfl rfl rfl rfl rfl underlying24 ?_
 intro B15
 refine hK16 _ _ ?_
 refine gop fun K18 hK18 => ?_
 refine go_slice5I rfl rfl rfl rfl rfl rfl rfl rfl underlying24 ?_
 intro B17
 refine hK18 _ _ ?_
 refine gop fun K20 hK20 => ?_
 refine go_slice5I rfl rfl rfl rfl rfl rfl rfl rfl underlying24 ?_
 intro B19
 refine hK20 _ _ ?_
 refine gop fun K22 hK22 => ?_
 refine go_sliceR5L (L := [_, _, _, _]) rfl rfl rfl rfl rfl rfl rfl rfl underlying25 rfl ?_
 intro B21
 refine hK22 _ _ ?_
 refine gv (qt_build rfl rfl bt_Category) ?_
 refine gop fun K23 hK23 => ?_
 refine gss 0 ?_
 refine hK23 _ _ ?_
 refine gnt (hK4 _ _ ?_)
 refine gc_ret ?_
 refine ret_S (n := 0) rfl rfl underlying27 rfl (by kernel_rfl) rfl (fun w M => ?_)
 exact ⟨_, rfl, ownC_star (c := splitC) (mem_pick (n := 4) (mem_pick (n := 4) (mem_pick (n := 4) (mem_pick (n := 4) (M) rfl) rfl) rfl) rfl).2, M.1⟩
theorem specFam_any (w0 w : World) (ca : Option Addr) (cl cc g : Nat) (F : List Itm) (hI : InB w0 (.slice ca cl cc)) (M : Mem w0 w [srcI ca cl cc g, tailI F]) :
  Calls Try.prog 81 #[.pointer (some ⟨g, 0, none⟩)] w (RetMC w0 (srcI ca cl cc g) F FamP) := by
 go_enter func81, Try.ntmps81
 refine gc_enterM M (N := 141) rfl (look_cons (k := 0) rfl (look_nil _)) ?_
 clear M
 refine gc_sr fun K1 hK1 => ?_
 refine gop fun K3 hK3 => ?_
 refine galC ?_
 intro B2
 refine hK3 _ _ ?_
 refine gnt (hK1 _ _ ?_)
 refine gc_seq fun K4 hK4 => ?_
 refine gc_sr fun K5 hK5 => ?_
 refine gm ?_
 refine gop fun K7 hK7 => ?_
 refine go_srcNext (n := 0) rfl rfl rfl func51 rfl (by decide) rfl hI rfl (by omega) ?_
 intro r6 hs6
 refine hK7 _ _ ?_
 refine gnt (hK5 _ _ ?_)
 refine gc_block ?_
 refine gc_sr fun K8 hK8 => ?_
 refine gv (qt_eql rfl rfl rfl) ?_
 refine gas ?_
 refine gnt (hK8 _ _ ?_)
 refine gc_cond rfl (fun hc0 => ?_) (fun hc0 => ?_)
 ·try simp only [sA] at hc0
  refine gc_sr fun K9 hK9 => ?_
  refine gm ?_
  refine gm ?_
  refine gop fun K11 hK11 => ?_
  refine go_srcNext (n := 0) rfl rfl rfl func51 rfl (by decide) rfl hI rfl (by omega) ?_
  intro r10 hs10
  refine hK11 _ _ ?_
  refine gop fun K13 hK13 => ?_
  refine go_callM (α := List (List Int) × Option Addr × Nat × List Value) rfl rfl rfl func96 rfl (by decide) rfl rfl (fun w M => specRel_any _ w ca cl cc g _ hI r10 (by omega) M) ?_
  intro ⟨rr12, ra12, rq12, ru12⟩ ⟨hp12, hq12, hl12⟩; dsimp only at hp12 hq12 hl12 ⊢
  refine hK13 _ _ ?_
  refine gop fun K15 hK15 => ?_
  refine go_callC rfl rfl rfl func85 rfl (by decide) rfl (fun w M => specPoset_any w _ (_) (mem_rdU (n := 3) M rfl) (by first | assumption | exact sq_of rfl | exact (ones_pre (by omega)).2) (by first | decide | omega | (simp; omega))) ?_
  intro ca14 cb14 cc14 cd14 ce14 cf14 cg14 ch14 cu14
  refine hK15 _ _ ?_
  refine gop fun K16 hK16 => ?_
  refine gss 2 ?_
  refine hK16 _ _ ?_
  refine gnt (hK9 _ _ ?_)
  refine gc_ret ?_
  refine gk_block_ret ?_
  refine gk_then_ret ?_
  refine ret_S (n := 2) rfl rfl underlying27 rfl (by kernel_rfl) rfl (fun w M => ?_)
  exact ⟨_, _, fam_pos (by assumption) (by omega), rfl, mem_packC [_, _] (mem_take 6 (mem_pick (n := 5) (mem_pick (n := 5) (mem_pick (n := 7) (mem_pick (n := 7) (mem_pick (n := 7) (mem_pick (n := 7) (M) rfl) rfl) rfl) rfl) rfl) rfl))⟩
 try simp only [sA] at hc0
 refine gc_sr fun K17 hK17 => ?_
 refine gv (qt_eql rfl rfl rfl) ?_
 refine gas ?_
 refine gnt (hK17 _ _ ?_)
 refine gc_cond rfl (fun hc1 => ?_) (fun hc1 => ?_)
 ·try simp only [sA] at hc1
  refine gc_sr fun K18 hK18 => ?_
  refine gop fun K20 hK20 => ?_
  refine go_slice2 rfl rfl rfl rfl rfl underlying24 ?_
  intro B19
  refine hK20 _ _ ?_
  refine gop fun K22 hK22 => ?_
  refine go_slice2 rfl rfl rfl rfl rfl underlying24 ?_
  intro B21
  refine hK22 _ _ ?_
  refine gop fun K24 hK24 => ?_
  refine go_sliceR2L (L := [_, _, _]) rfl rfl rfl rfl rfl underlying25 rfl ?_
  intro B23
  refine hK24 _ _ ?_
  refine gop fun K26 hK26 => ?_
  refine go_callC rfl rfl rfl func85 rfl (by decide) rfl (fun w M => specPoset_any w _ (_) (mem_rdU (n := 3) M rfl) (by first | assumption | exact sq_of rfl | exact (ones_pre (by omega)).2) (by first | decide | omega | (simp; omega))) ?_
  intro ca25 cb25 cc25 cd25 ce25 cf25 cg25 ch25 cu25
  refine hK26 _ _ ?_
  refine gop fun K27 hK27 => ?_
  refine gss 2 ?_
  refine hK27 _ _ ?_
  refine gnt (hK18 _ _ ?_)
  refine gc_ret ?_
  refine gk_block_ret ?_
  refine gk_then_ret ?_
  refine ret_S (n := 2) rfl rfl underlying27 rfl (by kernel_rfl) rfl (fun w M => ?_)
  exact ⟨_, _, fam_pos (pre_of rfl) (by decide), rfl, mem_packC [_, _] (mem_take 6 (mem_pick (n := 5) (mem_pick (n := 5) (mem_pick (n := 7) (mem_pick (n := 7) (mem_pick (n := 7) (mem_pick (n := 7) (M) rfl) rfl) rfl) rfl) rfl) rfl))⟩
 try simp only [sA] at hc1
 refine gc_sr fun K28 hK28 => ?_
 refine gv (qt_eql rfl rfl rfl) ?_
 refine gas ?_
 refine gnt (hK28 _ _ ?_)
 refine gc_cond rfl (fun hc2 => ?_) (fun hc2 => ?_)
 ·try simp only [sA] at hc2
  refine gc_sr fun K29 hK29 => ?_
  refine gop fun K31 hK31 => ?_
  refine go_slice3I rfl rfl rfl rfl rfl rfl underlying24 ?_
  intro B30
  refine hK31 _ _ ?_
  refine gop fun K33 hK33 => ?_
  refine go_slice3I rfl rfl rfl rfl rfl rfl underlying24 ?_
  intro B32
  refine hK33 _ _ ?_
  refine gop fun K35 hK35 => ?_
  refine go_slice3I rfl rfl rfl rfl rfl rfl underlying24 ?_
  intro B34
  refine hK35 _ _ ?_
  refine gop fun K37 hK37 => ?_
  refine go_sliceR3L (L := [_, _, _]) rfl rfl rfl rfl rfl rfl underlying25 rfl ?_
  intro B36
  refine hK37 _ _ ?_
  refine gop fun K39 hK39 => ?_
  refine go_callC rfl rfl rfl func85 rfl (by decide) rfl (fun w M => specPoset_any w _ (_) (mem_rdU (n := 3) M rfl) (by first | assumption | exact sq_of rfl | exact (ones_pre (by omega)).2) (by first | decide | omega | (simp; omega))) ?_
  intro ca38 cb38 cc38 cd38 ce38 cf38 cg38 ch38 cu38
  refine hK39 _ _ ?_
  refine gop fun K40 hK40 => ?_
  refine gss 2 ?_
  refine hK40 _ _ ?_
  refine gnt (hK29 _ _ ?_)
  refine gc_ret ?_
  refine gk_block_ret ?_
  refine gk_then_ret ?_
  refine ret_S (n := 2) rfl rfl underlying27 rfl (by kernel_rfl) rfl (fun w M => ?_)
  exact ⟨_, _, fam_pos (pre_of rfl) (by decide), rfl, mem_packC [_, _] (mem_take 6 (mem_pick (n := 5) (mem_pick (n := 5) (mem_pick (n := 7) (mem_pick (n := 7) (mem_pick (n := 7) (mem_pick (n := 7) (M) rfl) rfl) rfl) rfl) rfl) rfl))⟩
 try simp only [sA] at hc2
 refine gc_sr fun K41 hK41 => ?_
 refine gv (qt_eql rfl rfl rfl) ?_
 refine gas ?_
 refine gnt (hK41 _ _ ?_)
 refine gc_cond rfl (fun hc3 => ?_) (fun hc3 => ?_)
 ·try simp only [sA] at hc3
  refine gc_sr fun K42 hK42 => ?_
  refine gop fun K44 hK44 => ?_
  refine go_slice2 rfl rfl rfl rfl rfl underlying24 ?_
  intro B43
  refine hK44 _ _ ?_
  refine gop fun K46 hK46 => ?_
  refine go_slice2 rfl rfl rfl rfl rfl underlying24 ?_
  intro B45
  refine hK46 _ _ ?_
  refine gop fun K48 hK48 => ?_
  refine go_callCE (P := FamP) rfl rfl rfl func97 rfl (by decide) rfl (fun w M => (specPathsE_any w 2 _ _ _ _ ((mem_own1 (n := 3) M rfl).rd) ((mem_own1 (n := 4) M rfl).rd) (by first | decide | omega) (by first | decide | omega) (by first | rfl | omega)).mono fun e w1 h => by obtain ⟨es, hP, hR⟩ := h; exact ⟨_, fam_paths (by first | exact ⟨by decide, by decide, by decide⟩ | exact ⟨by omega, by omega, hup.2⟩) hP, hR⟩) ?_
  intro cz47 ca47 cb47 cc47 cd47 ce47 cf47 cg47 ch47 cu47 hfam47
  refine hK48 _ _ ?_
  refine gop fun K49 hK49 => ?_
  refine gss 2 ?_
  refine hK49 _ _ ?_
  refine gnt (hK42 _ _ ?_)
  refine gc_ret ?_
  refine gk_block_ret ?_
  refine gk_then_ret ?_
  refine ret_S (n := 2) rfl rfl underlying27 rfl (by kernel_rfl) rfl (fun w M => ?_)
  exact ⟨_, _, (by assumption), rfl, mem_packC [_, _] (mem_take 6 (mem_pick (n := 5) (mem_pick (n := 5) (mem_pick (n := 8) (mem_pick (n := 8) (mem_pick (n := 8) (mem_pick (n := 8) (M) rfl) rfl) rfl) rfl) rfl) rfl))⟩
 try simp only [sA] at hc3
 refine gc_sr fun K50 hK50 => ?_
 refine gv (qt_eql rfl rfl rfl) ?_
 refine gas ?_
 refine gnt (hK50 _ _ ?_)
 refine gc_cond rfl (fun hc4 => ?_) (fun hc4 => ?_)
 ·try simp only [sA] at hc4
  refine gc_sr fun K51 hK51 => ?_
  refine gm ?_
  refine gop fun K53 hK53 => ?_
  refine go_callM (α := List (List Int) × Option Addr × Nat × List Value) rfl rfl rfl func99 rfl (by decide) rfl rfl (fun w M => specMond_any _ w ca cl cc g _ hI M) ?_
  intro ⟨rr52, ra52, rq52, ru52⟩ ⟨hp52, hq52, hl52⟩; dsimp only at hp52 hq52 hl52 ⊢
  refine hK53 _ _ ?_
  refine gop fun K55 hK55 => ?_
  refine go_callC rfl rfl rfl func98 rfl (by decide) rfl (fun w M => specMonoidC_any w _ (_) (mem_rdU (n := 3) M rfl)) ?_
  intro ca54 cb54 cc54 cd54 ce54 cf54 cg54 ch54 cu54
  refine hK55 _ _ ?_
  refine gop fun K56 hK56 => ?_
  refine gss 2 ?_
  refine hK56 _ _ ?_
  refine gnt (hK51 _ _ ?_)
  refine gc_ret ?_
  refine gk_block_ret ?_
  refine gk_then_ret ?_
  refine ret_S (n := 2) rfl rfl underlying27 rfl (by kernel_rfl) rfl (fun w M => ?_)
  exact ⟨_, _, fam_mon (by assumption) (by assumption) (by omega), rfl, mem_packC [_, _] (mem_take 6 (mem_pick (n := 5) (mem_pick (n := 5) (mem_pick (n := 7) (mem_pick (n := 7) (mem_pick (n := 7) (mem_pick (n := 7) (M) rfl) rfl) rfl) rfl) rfl) rfl))⟩
 try simp only [sA] at hc4
 refine gc_sr fun K57 hK57 => ?_
 refine gv (qt_eql rfl rfl rfl) ?_
 refine gas ?_
 refine gnt (hK57 _ _ ?_)
 refine gc_cond rfl (fun hc5 => ?_) (fun hc5 => ?_)
 ·try simp only [sA] at hc5
  refine gc_sr fun K58 hK58 => ?_
  refine gm ?_
  refine gop fun K60 hK60 => ?_
  refine go_srcNext (n := 0) rfl rfl rfl func51 rfl (by decide) rfl hI rfl (by omega) ?_
  intro r59 hs59
  refine hK60 _ _ ?_
  refine gv (qt_add rfl rfl rfl (by omega)) ?_
  refine gas ?_
  refine gnt (hK58 _ _ ?_)
  refine gc_seq fun K61 hK61 => ?_
  obtain ⟨nn, hnn⟩ : ∃ nn : Nat, (1 : Int) + (r59 : Int) = (nn : Int) := ⟨1 + r59, by omega⟩
  rw [hnn]
  refine gc_region ?_
  refine gop fun K63 hK63 => ?_
  refine go_sliceR0 rfl rfl rfl underlying25 ?_
  intro B62
  refine hK63 _ _ ?_
  refine gas ?_
  refine gnt (hK61 _ _ ?_)
  refine gc_seq fun K64 hK64 => ?_
  refine gc_sr fun K65 hK65 => ?_
  refine gas ?_
  refine gnt (hK65 _ _ ?_)
  refine gc_block ?_
  try simp only [sL]
  refine gc_loopT ([(0, _), (2, _), (3, _), (14, _), (15, _), (22, _), (28, _), (35, _), (40, _), (45, _)] : Env) (fun s : Nat × (Option Addr) × Nat × (List Value) => (fun (k : Nat) (a : Option Addr) (q : Nat) (us : List Value) => (([(4, .slice a (List.replicate k (List.replicate nn (1 : Int))).length q), (5, .int .i64 (k : Int))] : Env), ([(3, own2U (.slice a (List.replicate k (List.replicate nn (1 : Int))).length q) us (List.replicate k (List.replicate nn (1 : Int))))] : List (Nat × Itm)), k ≤ nn, nn - k)) s.1 s.2.1 s.2.2.1 s.2.2.2) (0, _, _, _) (by repeat first | exact sub_nil | refine sub_cons rfl ?_) rfl (Nat.zero_le _) ?_
  rintro ⟨k, a, q, us⟩ hinv KL66 hKL66
  simp only [sU, sL] at hinv hKL66 ⊢
  have hk := hinv
  have hrl : (List.replicate k (List.replicate nn (1 : Int))).length = k := List.length_replicate
  refine gc_seq fun K67 hK67 => ?_
  refine gc_sr fun K68 hK68 => ?_
  refine gm ?_
  refine gm ?_
  refine gv (qt_lss rfl rfl rfl) ?_
  refine gnt (hK68 _ _ ?_)
  refine gc_cond rfl (fun hc6 => ?_) (fun hc6 => ?_)
  ·try simp only [sA] at hc6
   refine gc_skip ?_
   refine gk_then (hK67 _ _ ?_)
   refine gc_seq fun K69 hK69 => ?_
   refine gc_block ?_
   refine gc_sr fun K70 hK70 => ?_
   refine gop fun K72 hK72 => ?_
   refine go_slice0 rfl rfl rfl underlying24 ?_
   intro B71
   refine hK72 _ _ ?_
   refine gas ?_
   refine gnt (hK70 _ _ ?_)
   refine gc_seq fun K73 hK73 => ?_
   refine gc_sr fun K74 hK74 => ?_
   refine gas ?_
   refine gnt (hK74 _ _ ?_)
   refine gc_block ?_
   try simp only [sL]
   refine gc_loopT ([(0, _), (2, _), (3, _), (4, _), (5, _), (14, _), (15, _), (22, _), (28, _), (35, _), (40, _), (45, _), (53, _)] : Env) (fun s : Nat × (Option Addr) × Nat => (fun (l : Nat) (b : Option Addr) (r : Nat) => (([(6, .slice b (List.replicate l (1 : Int)).length r), (7, .int .i64 (l : Int))] : Env), ([(4, own1I (.slice b (List.replicate l (1 : Int)).length r) (List.replicate l (1 : Int)))] : List (Nat × Itm)), l ≤ nn, nn - l)) s.1 s.2.1 s.2.2) (0, _, _) (by repeat first | exact sub_nil | refine sub_cons rfl ?_) rfl (Nat.zero_le _) ?_
   rintro ⟨l, b, r⟩ hinv KL75 hKL75
   simp only [sU, sL] at hinv hKL75 ⊢
   have hl := hinv
   have hol : (List.replicate l (1 : Int)).length = l := List.length_replicate
   refine gc_seq fun K76 hK76 => ?_
   refine gc_sr fun K77 hK77 => ?_
   refine gm ?_
   refine gm ?_
   refine gv (qt_lss rfl rfl rfl) ?_
   refine gnt (hK77 _ _ ?_)
   refine gc_cond rfl (fun hc7 => ?_) (fun hc7 => ?_)
   ·try simp only [sA] at hc7
    refine gc_skip ?_
    refine gk_then (hK76 _ _ ?_)
    refine gc_seq fun K78 hK78 => ?_
    refine gc_block ?_
    refine gc_region ?_
    refine gm ?_
    refine gop fun K80 hK80 => ?_
    refine go_slice1 rfl rfl rfl rfl underlying24 ?_
    intro B79
    refine hK80 _ _ ?_
    refine gop fun K82 hK82 => ?_
    refine go_append (n := 4) (m := 5) rfl rfl rfl underlying24 rfl rfl rfl rfl (by omega) ?_
    intro va81 vc81
    refine hK82 _ _ ?_
    refine gas ?_
    refine g_nil ?_
    refine gk_block ?_
    refine gk_then (hK78 _ _ ?_)
    refine gc_region ?_
    refine gm ?_
    refine gv (qt_add rfl rfl rfl (by omega)) ?_
    refine gas ?_
    refine g_nil ?_
    rw [rep_app]
    refine gk_then (gk_take 5 ?_)
    refine gk_sub ?hs_83 (hKL75 (l + 1, _, _) ?hi_83 ?hm_83)
    case hs_83 => repeat first | exact sub_nil | refine sub_cons rfl ?_
    case hi_83 => omega
    case hm_83 => omega
   try simp only [sA] at hc7
   refine gc_exit ?_
   refine gk_then_exit ?_
   refine gk_then_exit ?_
   refine gk_block_hit ?_
   refine gk_then (hK73 _ _ ?_)
   refine gc_region ?_
   refine gm ?_
   refine gm ?_
   refine gop fun K85 hK85 => ?_
   refine go_sliceR1 (m := 4) rfl rfl rfl rfl underlying25 rfl ?_
   intro B84
   refine hK85 _ _ ?_
   refine gop fun K87 hK87 => ?_
   refine go_appendRow (n := 3) (m := 4) (m' := 3) rfl rfl rfl underlying25 rfl rfl rfl rfl rfl (by omega) ?_
   intro va86 vc86
   refine hK87 _ _ ?_
   refine gas ?_
   refine g_nil ?_
   refine gk_block ?_
   refine gk_then (hK69 _ _ ?_)
   refine gc_region ?_
   refine gm ?_
   refine gv (qt_add rfl rfl rfl (by omega)) ?_
   refine gas ?_
   refine g_nil ?_
   obtain rfl : nn = l := by omega
   rw [rep_app]
   refine gk_then (gk_take 4 ?_)
   refine gk_sub ?hs_88 (hKL66 (k + 1, _, _, _) ?hi_88 ?hm_88)
   case hs_88 => repeat first | exact sub_nil | refine sub_cons rfl ?_
   case hi_88 => omega
   case hm_88 => omega
  try simp only [sA] at hc6
  refine gc_exit ?_
  refine gk_then_exit ?_
  refine gk_then_exit ?_
  refine gk_block_hit ?_
  refine gk_then (hK64 _ _ ?_)
  refine gc_seq fun K89 hK89 => ?_
  obtain rfl : nn = k := by omega
  refine gc_region ?_
  refine gm ?_
  refine gop fun K91 hK91 => ?_
  refine go_callC rfl rfl rfl func85 rfl (by decide) rfl (fun w M => specPoset_any w _ (_) (mem_rdU (n := 3) M rfl) (by first | assumption | exact sq_of rfl | exact (ones_pre (by omega)).2) (by first | decide | omega | (simp; omega))) ?_
  intro ca90 cb90 cc90 cd90 ce90 cf90 cg90 ch90 cu90
  refine hK91 _ _ ?_
  refine gop fun K92 hK92 => ?_
  refine gss 2 ?_
  refine hK92 _ _ ?_
  refine gnt (hK89 _ _ ?_)
  refine gc_ret ?_
  refine gk_block_ret ?_
  refine gk_then_ret ?_
  refine ret_S (n := 2) rfl rfl underlying27 rfl (by kernel_rfl) rfl (fun w M => ?_)
  exact ⟨_, _, fam_pos (ones_pre (by omega)).1 (by simp; omega), rfl, mem_packC [_, _] (mem_take 6 (mem_pick (n := 5) (mem_pick (n := 5) (mem_pick (n := 7) (mem_pick (n := 7) (mem_pick (n := 7) (mem_pick (n := 7) (M) rfl) rfl) rfl) rfl) rfl) rfl))⟩
 try simp only [sA] at hc5
 refine gc_sr fun K93 hK93 => ?_
 refine gv (qt_eql rfl rfl rfl) ?_
 refine gas ?_
 refine gnt (hK93 _ _ ?_)
 refine gc_cond rfl (fun hc8 => ?_) (fun hc8 => ?_)
 ·try simp only [sA] at hc8
  refine gc_sr fun K94 hK94 => ?_
  refine gop fun K96 hK96 => ?_
  refine go_slice3I rfl rfl rfl rfl rfl rfl underlying24 ?_
  intro B95
  refine hK96 _ _ ?_
  refine gop fun K98 hK98 => ?_
  refine go_slice3I rfl rfl rfl rfl rfl rfl underlying24 ?_
  intro B97
  refine hK98 _ _ ?_
  refine gop fun K100 hK100 => ?_
  refine go_callCE (P := FamP) rfl rfl rfl func97 rfl (by decide) rfl (fun w M => (specPathsE_any w 3 _ _ _ _ ((mem_own1 (n := 3) M rfl).rd) ((mem_own1 (n := 4) M rfl).rd) (by first | decide | omega) (by first | decide | omega) (by first | rfl | omega)).mono fun e w1 h => by obtain ⟨es, hP, hR⟩ := h; exact ⟨_, fam_paths (by first | exact ⟨by decide, by decide, by decide⟩ | exact ⟨by omega, by omega, hup.2⟩) hP, hR⟩) ?_
  intro cz99 ca99 cb99 cc99 cd99 ce99 cf99 cg99 ch99 cu99 hfam99
  refine hK100 _ _ ?_
  refine gop fun K101 hK101 => ?_
  refine gss 2 ?_
  refine hK101 _ _ ?_
  refine gnt (hK94 _ _ ?_)
  refine gc_ret ?_
  refine gk_block_ret ?_
  refine gk_then_ret ?_
  refine ret_S (n := 2) rfl rfl underlying27 rfl (by kernel_rfl) rfl (fun w M => ?_)
  exact ⟨_, _, (by assumption), rfl, mem_packC [_, _] (mem_take 6 (mem_pick (n := 5) (mem_pick (n := 5) (mem_pick (n := 8) (mem_pick (n := 8) (mem_pick (n := 8) (mem_pick (n := 8) (M) rfl) rfl) rfl) rfl) rfl) rfl))⟩
 try simp only [sA] at hc8
 refine gc_sr fun K102 hK102 => ?_
 refine gv (qt_eql rfl rfl rfl) ?_
 refine gas ?_
 refine gnt (hK102 _ _ ?_)
 refine gc_cond rfl (fun hc9 => ?_) (fun hc9 => ?_)
 ·try simp only [sA] at hc9
  refine gc_sr fun K103 hK103 => ?_
  refine gop fun K105 hK105 => ?_
  refine go_callC rfl rfl rfl func100 rfl (by decide) rfl (fun w M => specSplit_any w ()) ?_
  intro ca104 cb104 cc104 cd104 ce104 cf104 cg104 ch104 cu104
  refine hK105 _ _ ?_
  refine gop fun K106 hK106 => ?_
  refine gss 2 ?_
  refine hK106 _ _ ?_
  refine gnt (hK103 _ _ ?_)
  refine gc_ret ?_
  refine gk_block_ret ?_
  refine gk_then_ret ?_
  refine ret_S (n := 2) rfl rfl underlying27 rfl (by kernel_rfl) rfl (fun w M => ?_)
  exact ⟨_, _, split_fam, rfl, mem_packC [_, _] (mem_take 6 (mem_pick (n := 5) (mem_pick (n := 5) (mem_pick (n := 6) (mem_pick (n := 6) (mem_pick (n := 6) (mem_pick (n := 6) (M) rfl) rfl) rfl) rfl) rfl) rfl))⟩
 try simp only [sA] at hc9
 refine gc_sr fun K107 hK107 => ?_
 refine gv (qt_eql rfl rfl rfl) ?_
 refine gas ?_
 refine gnt (hK107 _ _ ?_)
 refine gc_cond rfl (fun hc10 => ?_) (fun hc10 => ?_)
 ·try simp only [sA] at hc10
  refine gc_sr fun K108 hK108 => ?_
  refine gm ?_
  refine gop fun K110 hK110 => ?_
  refine go_callM (α := List (List Int) × Option Addr × Nat × List Value) rfl rfl rfl func99 rfl (by decide) rfl rfl (fun w M => specMond_any _ w ca cl cc g _ hI M) ?_
  intro ⟨rr109, ra109, rq109, ru109⟩ ⟨hp109, hq109, hl109⟩; dsimp only at hp109 hq109 hl109 ⊢
  refine hK110 _ _ ?_
  refine gop fun K112 hK112 => ?_
  refine go_callC rfl rfl rfl func98 rfl (by decide) rfl (fun w M => specMonoidC_any w _ (_) (mem_rdU (n := 3) M rfl)) ?_
  intro ca111 cb111 cc111 cd111 ce111 cf111 cg111 ch111 cu111
  refine hK112 _ _ ?_
  refine gop fun K114 hK114 => ?_
  refine go_slice1 rfl rfl rfl rfl underlying24 ?_
  intro B113
  refine hK114 _ _ ?_
  refine gop fun K116 hK116 => ?_
  refine go_sliceR1 (m := 8) rfl rfl rfl rfl underlying25 rfl ?_
  intro B115
  refine hK116 _ _ ?_
  refine gop fun K118 hK118 => ?_
  refine go_callC rfl rfl rfl func85 rfl (by decide) rfl (fun w M => specPoset_any w _ (_) (mem_rdU (n := 8) M rfl) (by first | assumption | exact sq_of rfl | exact (ones_pre (by omega)).2) (by first | decide | omega | (simp; omega))) ?_
  intro ca117 cb117 cc117 cd117 ce117 cf117 cg117 ch117 cu117
  refine hK118 _ _ ?_
  refine gop fun K120 hK120 => ?_
  refine go_callC rfl rfl rfl func102 rfl (by decide) rfl (fun w M => specJoinCat_any w _ (monC _) (rdC_mk ((mem_own1 (n := 4) M rfl).rd) ((mem_own1 (n := 5) M rfl).rd) ((mem_own1 (n := 6) M rfl).rd) (mem_rdU (n := 7) M rfl)) _ (posetC _) (rdC_mk ((mem_own1 (n := 9) M rfl).rd) ((mem_own1 (n := 10) M rfl).rd) ((mem_own1 (n := 11) M rfl).rd) (mem_rdU (n := 12) M rfl)) (fam_mon (by assumption) (by assumption) (by omega)).1 (fam_pos (pre_of rfl) (by decide)).1) ?_
  intro ca119 cb119 cc119 cd119 ce119 cf119 cg119 ch119 cu119
  refine hK120 _ _ ?_
  refine gop fun K122 hK122 => ?_
  refine go_callC rfl rfl rfl func101 rfl (by decide) rfl (fun w M => specOp_any w _ (joinM _ _) (rdC_mk ((mem_own1 (n := 13) M rfl).rd) ((mem_own1 (n := 14) M rfl).rd) ((mem_own1 (n := 15) M rfl).rd) (mem_rdU (n := 16) M rfl)) (fam_join (by assumption) (by assumption) (by omega) (pre_of rfl) rfl).1) ?_
  intro ca121 cb121 cc121 cd121 ce121 cf121 cg121 ch121 cu121
  refine hK122 _ _ ?_
  refine gop fun K123 hK123 => ?_
  refine gss 2 ?_
  refine hK123 _ _ ?_
  refine gnt (hK108 _ _ ?_)
  refine gc_ret ?_
  refine gk_block_ret ?_
  refine gk_then_ret ?_
  refine ret_S (n := 2) rfl rfl underlying27 rfl (by kernel_rfl) rfl (fun w M => ?_)
  exact ⟨_, _, fam_opp (fam_join (by assumption) (by assumption) (by omega) (pre_of rfl) rfl), rfl, mem_packC [_, _] (mem_take 6 (mem_pick (n := 5) (mem_pick (n := 5) (mem_pick (n := 20) (mem_pick (n := 20) (mem_pick (n := 20) (mem_pick (n := 20) (M) rfl) rfl) rfl) rfl) rfl) rfl))⟩
 try simp only [sA] at hc10
 refine gc_sr fun K124 hK124 => ?_
 refine gv (qt_eql rfl rfl rfl) ?_
 refine gas ?_
 refine gnt (hK124 _ _ ?_)
 refine gc_cond rfl (fun hc11 => ?_) (fun hc11 => ?_)
 ·try simp only [sA] at hc11
  refine gc_sr fun K125 hK125 => ?_
  refine gm ?_
  refine gop fun K127 hK127 => ?_
  refine go_callM (α := List (List Int) × Option Addr × Nat × List Value) rfl rfl rfl func99 rfl (by decide) rfl rfl (fun w M => specMond_any _ w ca cl cc g _ hI M) ?_
  intro ⟨rr126, ra126, rq126, ru126⟩ ⟨hp126, hq126, hl126⟩; dsimp only at hp126 hq126 hl126 ⊢
  refine hK127 _ _ ?_
  refine gop fun K129 hK129 => ?_
  refine go_callC rfl rfl rfl func98 rfl (by decide) rfl (fun w M => specMonoidC_any w _ (_) (mem_rdU (n := 3) M rfl)) ?_
  intro ca128 cb128 cc128 cd128 ce128 cf128 cg128 ch128 cu128
  refine hK129 _ _ ?_
  refine gop fun K131 hK131 => ?_
  refine go_slice1 rfl rfl rfl rfl underlying24 ?_
  intro B130
  refine hK131 _ _ ?_
  refine gop fun K133 hK133 => ?_
  refine go_sliceR1 (m := 8) rfl rfl rfl rfl underlying25 rfl ?_
  intro B132
  refine hK133 _ _ ?_
  refine gop fun K135 hK135 => ?_
  refine go_callC rfl rfl rfl func85 rfl (by decide) rfl (fun w M => specPoset_any w _ (_) (mem_rdU (n := 8) M rfl) (by first | assumption | exact sq_of rfl | exact (ones_pre (by omega)).2) (by first | decide | omega | (simp; omega))) ?_
  intro ca134 cb134 cc134 cd134 ce134 cf134 cg134 ch134 cu134
  refine hK135 _ _ ?_
  refine gop fun K137 hK137 => ?_
  refine go_callC rfl rfl rfl func102 rfl (by decide) rfl (fun w M => specJoinCat_any w _ (monC _) (rdC_mk ((mem_own1 (n := 4) M rfl).rd) ((mem_own1 (n := 5) M rfl).rd) ((mem_own1 (n := 6) M rfl).rd) (mem_rdU (n := 7) M rfl)) _ (posetC _) (rdC_mk ((mem_own1 (n := 9) M rfl).rd) ((mem_own1 (n := 10) M rfl).rd) ((mem_own1 (n := 11) M rfl).rd) (mem_rdU (n := 12) M rfl)) (fam_mon (by assumption) (by assumption) (by omega)).1 (fam_pos (pre_of rfl) (by decide)).1) ?_
  intro ca136 cb136 cc136 cd136 ce136 cf136 cg136 ch136 cu136
  refine hK137 _ _ ?_
  refine gop fun K138 hK138 => ?_
  refine gss 2 ?_
  refine hK138 _ _ ?_
  refine gnt (hK125 _ _ ?_)
  refine gc_ret ?_
  refine gk_block_ret ?_
  refine gk_then_ret ?_
  refine ret_S (n := 2) rfl rfl underlying27 rfl (by kernel_rfl) rfl (fun w M => ?_)
  exact ⟨_, _, fam_join (by assumption) (by assumption) (by omega) (pre_of rfl) rfl, rfl, mem_packC [_, _] (mem_take 6 (mem_pick (n := 5) (mem_pick (n := 5) (mem_pick (n := 16) (mem_pick (n := 16) (mem_pick (n := 16) (mem_pick (n := 16) (M) rfl) rfl) rfl) rfl) rfl) rfl))⟩
 try simp only [sA] at hc11
 refine gc_sr fun K139 hK139 => ?_
 refine gv (qt_eql rfl rfl rfl) ?_
 refine gas ?_
 refine gnt (hK139 _ _ ?_)
 refine gc_cond rfl (fun hc12 => ?_) (fun hc12 => ?_)
 ·try simp only [sA] at hc12
  refine gc_sr fun K140 hK140 => ?_
  refine gm ?_
  refine gm ?_
  refine gop fun K142 hK142 => ?_
  refine go_srcNext (n := 0) rfl rfl rfl func51 rfl (by decide) rfl hI rfl (by omega) ?_
  intro r141 hs141
  refine hK142 _ _ ?_
  refine gv (qt_add rfl rfl rfl (by omega)) ?_
  refine gop fun K144 hK144 => ?_
  refine go_callM (α := List (List Int) × Option Addr × Nat × List Value) rfl rfl rfl func96 rfl (by decide) rfl rfl (fun w M => specRel_any _ w ca cl cc g _ hI (2 + r141) (by omega) M) ?_
  intro ⟨rr143, ra143, rq143, ru143⟩ ⟨hp143, hq143, hl143⟩; dsimp only at hp143 hq143 hl143 ⊢
  refine hK144 _ _ ?_
  refine gop fun K146 hK146 => ?_
  refine go_callC rfl rfl rfl func85 rfl (by decide) rfl (fun w M => specPoset_any w _ (_) (mem_rdU (n := 3) M rfl) (by first | assumption | exact sq_of rfl | exact (ones_pre (by omega)).2) (by first | decide | omega | (simp; omega))) ?_
  intro ca145 cb145 cc145 cd145 ce145 cf145 cg145 ch145 cu145
  refine hK146 _ _ ?_
  refine gop fun K147 hK147 => ?_
  refine gss 2 ?_
  refine hK147 _ _ ?_
  refine gnt (hK140 _ _ ?_)
  refine gc_ret ?_
  refine gk_block_ret ?_
  refine gk_then_ret ?_
  refine ret_S (n := 2) rfl rfl underlying27 rfl (by kernel_rfl) rfl (fun w M => ?_)
  exact ⟨_, _, fam_pos (by assumption) (by omega), rfl, mem_packC [_, _] (mem_take 6 (mem_pick (n := 5) (mem_pick (n := 5) (mem_pick (n := 7) (mem_pick (n := 7) (mem_pick (n := 7) (mem_pick (n := 7) (M) rfl) rfl) rfl) rfl) rfl) rfl))⟩
 try simp only [sA] at hc12
 refine gc_skip ?_
 refine gk_block ?_
 refine gk_then (hK4 _ _ ?_)
 refine gc_sr fun K148 hK148 => ?_
 refine gm ?_
 refine gop fun K150 hK150 => ?_
 refine go_srcNext (n := 0) rfl rfl rfl func51 rfl (by decide) rfl hI rfl (by omega) ?_
 intro r149 hs149
 refine hK150 _ _ ?_
 refine gv (qt_add rfl rfl rfl (by omega)) ?_
 refine gas ?_
 refine gnt (hK148 _ _ ?_)
 refine gc_seq fun K151 hK151 => ?_
 obtain ⟨nn, hnn⟩ : ∃ nn : Nat, (2 : Int) + (r149 : Int) = (nn : Int) := ⟨2 + r149, by omega⟩
 rw [hnn]
 refine gc_region ?_
 refine gop fun K153 hK153 => ?_
 refine go_slice0 rfl rfl rfl underlying24 ?_
 intro B152
 refine hK153 _ _ ?_
 refine gop fun K155 hK155 => ?_
 refine go_slice0 rfl rfl rfl underlying24 ?_
 intro B154
 refine hK155 _ _ ?_
 refine gas ?_
 refine gas ?_
 refine gnt (hK151 _ _ ?_)
 refine gc_seq fun K156 hK156 => ?_
 refine gc_sr fun K157 hK157 => ?_
 refine gm ?_
 refine gop fun K159 hK159 => ?_
 refine go_srcNext (n := 0) rfl rfl rfl func51 rfl (by decide) rfl hI rfl (by omega) ?_
 intro r158 hs158
 refine hK159 _ _ ?_
 refine gas ?_
 refine gnt (hK157 _ _ ?_)
 refine gc_block ?_
 try simp only [sL]
 refine gc_loopT ([(0, _), (2, _), (8, _), (14, _), (15, _), (22, _), (28, _), (35, _), (40, _), (45, _), (71, _), (76, _), (79, _), (89, _), (98, _)] : Env) (fun s : Int × (Option Addr) × Nat × (Option Addr) × Nat × (List Int) × (List Int) => (fun (kz : Int) (a1 : Option Addr) (q1 : Nat) (a2 : Option Addr) (q2 : Nat) (fr : List Int) (to : List Int) => (([(9, .slice a1 fr.length q1), (10, .slice a2 to.length q2), (11, .int .i64 kz)] : Env), ([(3, own1I (.slice a1 fr.length q1) fr), (4, own1I (.slice a2 to.length q2) to)] : List (Nat × Itm)), kz + fr.length ≤ 3 ∧ 0 ≤ kz ∧ UpL nn fr to, kz.toNat)) s.1 s.2.1 s.2.2.1 s.2.2.2.1 s.2.2.2.2.1 s.2.2.2.2.2.1 s.2.2.2.2.2.2) (((r158 : Nat) : Int), _, _, _, _, [], []) (by repeat first | exact sub_nil | refine sub_cons rfl ?_) rfl ⟨(by show ((r158 : Nat) : Int) + ((0 : Nat) : Int) ≤ 3; omega), (by show (0 : Int) ≤ ((r158 : Nat) : Int); omega), up_zero _⟩ ?_
 rintro ⟨kz, a1, q1, a2, q2, fr, to⟩ hinv KL160 hKL160
 simp only [sU, sL] at hinv hKL160 ⊢
 obtain ⟨hkz, hkz0, hup⟩ := hinv
 have hul := hup.1
 refine gc_seq fun K161 hK161 => ?_
 refine gc_sr fun K162 hK162 => ?_
 refine gm ?_
 refine gv (qt_gtr rfl rfl rfl) ?_
 refine gnt (hK162 _ _ ?_)
 refine gc_cond rfl (fun hc13 => ?_) (fun hc13 => ?_)
 ·try simp only [sA] at hc13
  refine gc_skip ?_
  refine gk_then (hK161 _ _ ?_)
  refine gc_seq fun K163 hK163 => ?_
  refine gc_block ?_
  refine gc_sr fun K164 hK164 => ?_
  refine gm ?_
  refine gm ?_
  refine gv (qt_sub rfl rfl rfl (by omega)) ?_
  refine gop fun K166 hK166 => ?_
  refine go_srcNext (n := 0) rfl rfl rfl func51 rfl (by decide) rfl hI rfl (by omega) ?_
  intro r165 hs165
  refine hK166 _ _ ?_
  refine gas ?_
  refine gnt (hK164 _ _ ?_)
  refine gc_sr fun K167 hK167 => ?_
  refine gm ?_
  refine gm ?_
  refine gop fun K169 hK169 => ?_
  refine go_slice1 rfl rfl rfl rfl underlying24 ?_
  intro B168
  refine hK169 _ _ ?_
  refine gop fun K171 hK171 => ?_
  refine go_append (n := 3) (m := 5) rfl rfl rfl underlying24 rfl rfl rfl rfl (by omega) ?_
  intro va170 vc170
  refine hK171 _ _ ?_
  refine gas ?_
  refine gnt (hK167 _ _ ?_)
  refine gc_region ?_
  refine gm ?_
  refine gm ?_
  refine gv (qt_add rfl rfl rfl (by omega)) ?_
  refine gm ?_
  refine gm ?_
  refine gv (qt_sub rfl rfl rfl (by omega)) ?_
  refine gm ?_
  refine gv (qt_sub rfl rfl rfl (by omega)) ?_
  refine gop fun K173 hK173 => ?_
  refine go_srcNext (n := 0) rfl rfl rfl func51 rfl (by decide) rfl hI rfl (by omega) ?_
  intro r172 hs172
  refine hK173 _ _ ?_
  refine gv (qt_add rfl rfl rfl (by omega)) ?_
  refine gop fun K175 hK175 => ?_
  refine go_slice1 rfl rfl rfl rfl underlying24 ?_
  intro B174
  refine hK175 _ _ ?_
  refine gop fun K177 hK177 => ?_
  refine go_append (n := 4) (m := 6) rfl rfl rfl underlying24 rfl rfl rfl rfl (by omega) ?_
  intro va176 vc176
  refine hK177 _ _ ?_
  refine gas ?_
  refine g_nil ?_
  refine gk_block ?_
  refine gk_then (hK163 _ _ ?_)
  refine gc_region ?_
  refine gm ?_
  refine gv (qt_sub rfl rfl rfl (by omega)) ?_
  refine gas ?_
  refine g_nil ?_
  refine gk_then (gk_take 5 ?_)
  refine gk_sub ?hs_178 (hKL160 (kz - 1, _, _, _, _, _, _) ?hi_178 ?hm_178)
  case hs_178 => repeat first | exact sub_nil | refine sub_cons rfl ?_
  case hi_178 => exact ⟨by simp; omega, by omega, up_app hup (by omega) (by omega) (by omega)⟩
  case hm_178 => omega
 try simp only [sA] at hc13
 refine gc_exit ?_
 refine gk_then_exit ?_
 refine gk_then_exit ?_
 refine gk_block_hit ?_
 refine gk_then (hK156 _ _ ?_)
 refine gc_sr fun K179 hK179 => ?_
 refine gm ?_
 refine gm ?_
 refine gm ?_
 refine gop fun K181 hK181 => ?_
 refine go_callCE (P := FamP) rfl rfl rfl func97 rfl (by decide) rfl (fun w M => (specPathsE_any w nn _ _ _ _ ((mem_own1 (n := 3) M rfl).rd) ((mem_own1 (n := 4) M rfl).rd) (by first | decide | omega) (by first | decide | omega) (by first | rfl | omega)).mono fun e w1 h => by obtain ⟨es, hP, hR⟩ := h; exact ⟨_, fam_paths (by first | exact ⟨by decide, by decide, by decide⟩ | exact ⟨by omega, by omega, hup.2⟩) hP, hR⟩) ?_
 intro cz180 ca180 cb180 cc180 cd180 ce180 cf180 cg180 ch180 cu180 hfam180
 refine hK181 _ _ ?_
 refine gop fun K182 hK182 => ?_
 refine gss 2 ?_
 refine hK182 _ _ ?_
 refine gnt (hK179 _ _ ?_)
 refine gc_ret ?_
 refine ret_S (n := 2) rfl rfl underlying27 rfl (by kernel_rfl) rfl (fun w M => ?_)
 exact ⟨_, _, (by assumption), rfl, mem_packC [_, _] (mem_take 6 (mem_pick (n := 5) (mem_pick (n := 5) (mem_pick (n := 8) (mem_pick (n := 8) (mem_pick (n := 8) (mem_pick (n := 8) (M) rfl) rfl) rfl) rfl) rfl) rfl))⟩
end Go.Proofs.Ytbiplocgenppoaa
