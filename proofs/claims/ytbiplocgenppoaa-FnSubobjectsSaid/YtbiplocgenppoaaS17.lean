import Derived.Test.YtbiplocgenppoaaS4
import Derived.Test.YtbiplocgenppoaaS14
import Derived.Test.YtbiplocgenppoaaS11
set_option maxHeartbeats 1000000
set_option maxRecDepth 100000
set_option linter.unusedSimpArgs false
set_option linter.unusedVariables false
set_option linter.unusedSectionVars false
namespace Go.Proofs.Ytbiplocgenppoaa
open _root_.Go.Proofs.Try
open Go.RowKit
def grow (xs : List Int) (φ : Nat → Int) : Nat → List Int
 | 0 => xs
 | k + 1 => grow xs φ k ++ [φ k]
theorem grow_eq (xs : List Int) (φ : Nat → Int) : ∀ k, grow xs φ k = xs ++ tabTo φ k
 | 0 => by simp [grow, tabTo]
 | k + 1 => by rw [grow, grow_eq xs φ k, ← tabTo_succ, List.append_assoc]
theorem grow_succ (xs : List Int) (φ : Nat → Int) (k : Nat) : grow xs φ k ++ [φ k] = grow xs φ (k + 1) := rfl
theorem grow_len (xs : List Int) (φ : Nat → Int) (k : Nat) : (grow xs φ k).length = xs.length + k := by rw [grow_eq, List.length_append, tabTo_len]
theorem app_l {xs ys : List Int} {j : Nat} (h : j < xs.length) : at0 (xs ++ ys) (j : Int) = at0 xs (j : Int) := by
 rw [at0_nat, at0_nat, List.getD_eq_getElem?_getD, List.getD_eq_getElem?_getD, List.getElem?_append_left h]
theorem app_r {xs ys : List Int} {j : Nat} (h : xs.length ≤ j) : at0 (xs ++ ys) (j : Int) = at0 ys ((j - xs.length : Nat) : Int) := by
 rw [at0_nat, at0_nat, List.getD_eq_getElem?_getD, List.getD_eq_getElem?_getD, List.getElem?_append_right h]
theorem grow_l {xs : List Int} {φ : Nat → Int} {k j : Nat} (h : j < xs.length) : at0 (grow xs φ k) (j : Int) = at0 xs (j : Int) := by rw [grow_eq, app_l h]
theorem grow_r {xs : List Int} {φ : Nat → Int} {k j : Nat} (h : xs.length ≤ j) (h2 : j < xs.length + k) : at0 (grow xs φ k) (j : Int) = φ (j - xs.length) := by rw [grow_eq, app_r h, tabTo_at _ (by omega)]
def growR (xs : List (List Int)) (ψ : Nat → List Int) : Nat → List (List Int)
 | 0 => xs
 | k + 1 => growR xs ψ k ++ [ψ k]
theorem growR_succ (xs : List (List Int)) (ψ : Nat → List Int) (k : Nat) : growR xs ψ k ++ [ψ k] = growR xs ψ (k + 1) := rfl
theorem growR_len (xs : List (List Int)) (ψ : Nat → List Int) (k : Nat) : (growR xs ψ k).length = xs.length + k := by
 induction k with
 | zero => rfl
 | succ k ih => rw [← growR_succ, List.length_append, ih]; rfl
theorem growR_l {xs : List (List Int)} {ψ : Nat → List Int} {j : Nat} (h : j < xs.length) (k : Nat) : row2 (growR xs ψ k) (j : Int) = row2 xs (j : Int) := by
 induction k with
 | zero => rfl
 | succ k ih =>
  rw [← growR_succ, ← ih]
  have := growR_len xs ψ k
  simp only [row2, Int.toNat_natCast, List.getD_eq_getElem?_getD]
  rw [List.getElem?_append_left (by omega)]
theorem growR_r {xs : List (List Int)} {ψ : Nat → List Int} {j : Nat} (h : xs.length ≤ j) (k : Nat) (h2 : j < xs.length + k) : row2 (growR xs ψ k) (j : Int) = ψ (j - xs.length) := by
 induction k with
 | zero => omega
 | succ k ih =>
  have hl := growR_len xs ψ k
  by_cases hj : j < xs.length + k
  ·rw [← ih hj, ← growR_succ]
   simp only [row2, Int.toNat_natCast, List.getD_eq_getElem?_getD]
   rw [List.getElem?_append_left (by omega)]
  obtain rfl : j = xs.length + k := by omega
  rw [← growR_succ]
  simp only [row2, Int.toNat_natCast, List.getD_eq_getElem?_getD]
  rw [List.getElem?_append_right (by omega), hl]
  simp
def stepR (f : Nat) (R : List (List Int)) : List (List Int) := R.set f (row2 R (f : Int) ++ [-1])
def iterR (f : Nat) : Nat → List (List Int) → List (List Int)
 | 0, R => R
 | g + 1, R => stepR f (iterR f g R)
def rowsF (R : List (List Int)) (m : Nat) : Nat → List (List Int)
 | 0 => R
 | f + 1 => iterR f m (rowsF R m f)
theorem iterR_step (f g : Nat) (R : List (List Int)) : (iterR f g R).set f (row2 (iterR f g R) (f : Int) ++ [-1]) = iterR f (g + 1) R := rfl
theorem iterR_len (f g : Nat) (R : List (List Int)) : (iterR f g R).length = R.length := by
 induction g with
 | zero => rfl
 | succ g ih => rw [← iterR_step, List.length_set, ih]
theorem rowsF_len (R : List (List Int)) (m f : Nat) : (rowsF R m f).length = R.length := by
 induction f with
 | zero => rfl
 | succ f ih => rw [rowsF, iterR_len, ih]
theorem set_row {R : List (List Int)} {f i : Nat} (x : List Int) (hf : f < R.length) : row2 (R.set f x) (i : Int) = if i = f then x else row2 R (i : Int) := by
 simp only [row2, Int.toNat_natCast]
 exact getD_set2 R f x [] i hf
theorem iterR_row {f g : Nat} {R : List (List Int)} (hf : f < R.length) (i : Nat) : row2 (iterR f g R) (i : Int) = if i = f then row2 R (f : Int) ++ List.replicate g (-1) else row2 R (i : Int) := by
 induction g generalizing i with
 | zero =>
  by_cases h : i = f
  ·subst h; simp [iterR]
  simp only [iterR, if_neg h]
 | succ g ih =>
  rw [← iterR_step, set_row _ (by rw [iterR_len]; exact hf), ih f, ih i, if_pos rfl]
  by_cases h : i = f
  ·rw [if_pos h, if_pos h, List.append_assoc, List.replicate_succ']
  rw [if_neg h, if_neg h, if_neg h]
theorem rowsF_row {R : List (List Int)} {m : Nat} : ∀ f : Nat, f ≤ R.length → ∀ i : Nat, row2 (rowsF R m f) (i : Int) = if i < f then row2 R (i : Int) ++ List.replicate m (-1) else row2 R (i : Int)
 | 0, _, i => by simp [rowsF]
 | f + 1, hf, i => by
  rw [rowsF, iterR_row (by rw [rowsF_len]; omega), rowsF_row f (by omega), rowsF_row f (by omega)]
  by_cases h : i = f
  ·subst h; rw [if_pos rfl, if_neg (by omega), if_pos (by omega)]
  rw [if_neg h]
  by_cases h2 : i < f
  ·rw [if_pos h2, if_pos (by omega)]
  rw [if_neg h2, if_neg (by omega)]
def smC (c d : Cat) (j l : Nat) : Int := if 0 ≤ at0 (row2 d.m (j : Int)) (l : Int) then at0 (row2 d.m (j : Int)) (l : Int) + c.s.length else at0 (row2 d.m (j : Int)) (l : Int)
theorem smC_t {c d : Cat} {j l : Nat} (h : 0 ≤ at0 (row2 d.m (j : Int)) (l : Int)) : at0 (row2 d.m (j : Int)) (l : Int) + c.s.length = smC c d j l := (if_pos h).symm
theorem smC_f {c d : Cat} {j l : Nat} (h : ¬ 0 ≤ at0 (row2 d.m (j : Int)) (l : Int)) : at0 (row2 d.m (j : Int)) (l : Int) = smC c d j l := (if_neg h).symm
def smX (c d : Cat) (j l : Nat) : Int := if l < c.s.length then -1 else smC c d j (l - c.s.length)
theorem smX_t {c d : Cat} {j l : Nat} (h : l < c.s.length) : (-1 : Int) = smX c d j l := (if_pos h).symm
theorem smX_f {c d : Cat} {j l : Nat} : smC c d j l = smX c d j (c.s.length + l) := by unfold smX; rw [if_neg (by omega), show c.s.length + l - c.s.length = l from by omega]
def smR (c d : Cat) (j : Nat) : List Int := tabTo (smX c d j) (c.s.length + d.s.length)
theorem smR_def (c d : Cat) (j : Nat) : tabTo (smX c d j) (c.s.length + d.s.length) = smR c d j := rfl
def smS (c d : Cat) (j : Nat) : Int := at0 d.s (j : Int) + c.ob
def smT (c d : Cat) (j : Nat) : Int := at0 d.t (j : Int) + c.ob
def smE (c d : Cat) (y : Nat) : Int := at0 d.e (y : Int) + c.s.length
theorem smS_def (c d : Cat) (j : Nat) : at0 d.s (j : Int) + c.ob = smS c d j := rfl
theorem smT_def (c d : Cat) (j : Nat) : at0 d.t (j : Int) + c.ob = smT c d j := rfl
theorem smE_def (c d : Cat) (j : Nat) : at0 d.e (j : Int) + c.s.length = smE c d j := rfl
def sumM (c d : Cat) : Cat := ⟨c.ob + d.ob, grow c.s (smS c d) d.s.length, grow c.t (smT c d) d.s.length, grow c.e (smE c d) d.ob.toNat, growR (rowsF c.m d.s.length c.s.length) (smR c d) d.s.length⟩
theorem at_lt2 {n : Int} {l : List Int} (h : AllP n l) {k : Nat} (hk : k < l.length) : 0 ≤ at0 l (k : Int) ∧ at0 l (k : Int) < n := allP_at h hk
theorem th_lt2 {c : Cat} (hS : ShapeP c) {f g : Nat} (hf : f < c.s.length) (hg : g < c.s.length) : -1 ≤ at0 (row2 c.m (f : Int)) (g : Int) ∧ at0 (row2 c.m (f : Int)) (g : Int) < (c.s.length : Int) := by
 by_cases he : at0 c.t (f : Int) = at0 c.s (g : Int)
 ·have h := (th_ends hS (f := (f : Int)) (g := (g : Int)) (by omega) (by omega) (by omega) (by omega) he).1
  have h1 : 0 ≤ at0 (row2 c.m (f : Int)) (g : Int) := h.1
  exact ⟨by omega, h.2⟩
 have h2 : at0 (row2 c.m (f : Int)) (g : Int) = -1 := (th_none hS (f := (f : Int)) (g := (g : Int)) (by omega) (by omega) (by omega) (by omega)).2 he
 omega
theorem specSum_any (w : World) (v : Value) (c : Cat) (h : RdC w v c) (u : Value) (d : Cat) (e : RdC w u d) (hS : ShapeP c) (gS : ShapeP d) :
  Calls Try.prog 82 #[v, u] w (RetC w (sumM c d)) := by
 have h0 := h
 obtain ⟨va, vb, vc, vd, ve, vf, vg, vh, rfl, h1, h2, h3, h4, _⟩ := h.lists
 have e0 := e
 obtain ⟨ua, ub, uc, ud, ue, uf, ug, uh, rfl, e1, e2, e3, e4, _⟩ := e.lists
 have hn40 := hS.n40; have htl := hS.tl; have hel := hS.el; have hob0 := hS.ob0; have hob8 := hS.ob8; have hml := hS.ml
 have gn40 := gS.n40; have gtl := gS.tl; have gel := gS.el; have gob0 := gS.ob0; have gob8 := gS.ob8; have gml := gS.ml
 go_enter func82, Try.ntmps82
 refine gc_enter (N := 142) rfl (look_cons (k := 0) rfl (look_cons (k := 1) rfl (look_nil _))) ?_
 refine gc_sr fun K1 hK1 => ?_
 refine gop fun K3 hK3 => ?_
 refine go_box rfl rfl rfl rfl rfl ?_
 intro B2
 refine hK3 _ _ ?_
 refine gop fun K5 hK5 => ?_
 refine go_box rfl rfl rfl rfl rfl ?_
 intro B4
 refine hK5 _ _ ?_
 refine gop fun K7 hK7 => ?_
 refine galC ?_
 intro B6
 refine hK7 _ _ ?_
 refine gnt (hK1 _ _ ?_)
 refine gc_seq fun K8 hK8 => ?_
 refine gc_draw (by kernel_rfl) ?_
 refine gdv (qtf underlying27 (z := 0) (off := 0)) ?_
 refine gdv (qtl underlying2 (n := 0)) ?_
 refine gdv (qtf underlying27 (z := 0) (off := 1)) ?_
 refine gdv (qtl underlying24 (n := 0)) ?_
 refine gdv (qln (fun w M => lenV_rd h1)) ?_
 refine gdv (qt_assign rfl rfl) ?_
 refine gdv (qt_assign rfl rfl) ?_
 refine gd_nil ?_
 refine gk_then (hK8 _ _ ?_)
 refine gc_sr fun K9 hK9 => ?_
 refine gv (qts underlying27 (n := 0)) ?_
 refine gop fun K11 hK11 => ?_
 refine go_callC rfl rfl rfl func86 rfl (by decide) rfl (fun w M => specOwnC_any w _ _ (mem_rdC M h0)) ?_
 intro ca10 cb10 cc10 cd10 ce10 cf10 cg10 ch10 cu10
 refine hK11 _ _ ?_
 refine gop fun K13 hK13 => ?_
 refine galC ?_
 intro B12
 refine hK13 _ _ ?_
 refine gop fun K14 hK14 => ?_
 refine gss 7 ?_
 refine hK14 _ _ ?_
 refine gnt (hK9 _ _ ?_)
 refine gc_sr fun K15 hK15 => ?_
 refine gm ?_
 refine gv (qtf underlying27 (z := 0) (off := 0)) ?_
 refine gv (qtl underlying2 (n := 1)) ?_
 refine gv (qt_add rfl rfl rfl (by omega)) ?_
 refine gv (qtf underlying27 (z := 0) (off := 0)) ?_
 refine gop fun K16 hK16 => ?_
 refine go_storeB (n := 7) rfl rfl rfl rfl (by kernel_rfl) rfl rfl rfl (by first | decide | simp) ?_
 refine hK16 _ _ ?_
 refine gnt (hK15 _ _ ?_)
 refine gc_seq fun K17 hK17 => ?_
 refine gc_sr fun K18 hK18 => ?_
 refine gas ?_
 refine gnt (hK18 _ _ ?_)
 refine gc_block ?_
 try simp only [sL]
 refine gc_loopT ([(0, _), (1, _), (2, _), (3, _), (4, _), (5, _), (6, _), (7, _)] : Env) (fun s : Nat × (Option Addr) × Nat × (Option Addr) × Nat × (Option Addr) × Nat × (Option Addr) × Nat × Nat × (List Value) => (fun (y : Nat) (a1 : Option Addr) (q1 : Nat) (a2 : Option Addr) (q2 : Nat) (a3 : Option Addr) (q3 : Nat) (a4 : Option Addr) (nl : Nat) (q4 : Nat) (us : List Value) => (([(8, .int .i64 (y : Int))] : Env), ([(3, own1I (.slice a1 (c.s).length q1) (c.s)), (4, own1I (.slice a2 (c.t).length q2) (c.t)), (5, own1I (.slice a3 (grow c.e (smE c d) y).length q3) (grow c.e (smE c d) y)), (6, own2U (.slice a4 nl q4) us (c.m)), (7, bxI B12 27 [.int .i64 (c.ob + d.ob), .slice a1 (c.s).length q1, .slice a2 (c.t).length q2, .slice a3 (grow c.e (smE c d) y).length q3, .slice a4 nl q4])] : List (Nat × Itm)), y ≤ d.ob.toNat, d.ob.toNat - y)) s.1 s.2.1 s.2.2.1 s.2.2.2.1 s.2.2.2.2.1 s.2.2.2.2.2.1 s.2.2.2.2.2.2.1 s.2.2.2.2.2.2.2.1 s.2.2.2.2.2.2.2.2.1 s.2.2.2.2.2.2.2.2.2.1 s.2.2.2.2.2.2.2.2.2.2) (0, _, _, _, _, _, _, _, _, _, _) (by repeat first | exact sub_nil | refine sub_cons rfl ?_) rfl (Nat.zero_le _) ?_
 rintro ⟨y, a1, q1, a2, q2, a3, q3, a4, nl, q4, us⟩ hinv KL19 hKL19
 simp only [sU, sL] at hinv hKL19 ⊢
 have hy := hinv
 have hl3 := grow_len c.e (smE c d) y
 refine gc_seq fun K20 hK20 => ?_
 refine gc_sr fun K21 hK21 => ?_
 refine gm ?_
 refine gv (qtf underlying27 (z := 0) (off := 0)) ?_
 refine gv (qtl underlying2 (n := 1)) ?_
 refine gv (qt_lss rfl rfl rfl) ?_
 refine gnt (hK21 _ _ ?_)
 refine gc_cond rfl (fun hc0 => ?_) (fun hc0 => ?_)
 ·try simp only [sA] at hc0
  refine gc_skip ?_
  refine gk_then (hK20 _ _ ?_)
  refine gc_seq fun K22 hK22 => ?_
  refine gc_block ?_
  have i1 := gS.idn (x := (y : Int)) (by omega) (by omega)
  have i2 := i1.1; have i3 := i1.2.1
  try simp only [sL]
  refine ga_start _ (fun w M => mem_erase 5 (mem_erase 7 (M))) ?_
  refine gav 0 rfl (qtf underlying27 (z := 0) (off := 3)) ?_
  refine gav 2 rfl (qtf underlying27 (z := 0) (off := 3)) ?_
  refine gav 3 rfl (qtl underlying24 (n := 1)) ?_
  refine gav 4 rfl (qt_move rfl rfl) ?_
  refine gav 5 rfl (qti (fun w M => lenA_rd e3)) ?_
  refine gav 6 rfl (qtd (fun w M => mem_rd M e3)) ?_
  refine gav 7 rfl (qt_move rfl rfl) ?_
  refine gav 8 rfl (qt_add rfl rfl rfl (by omega)) ?_
  refine gat 1 9 (fun K23 hK23 => ?_) (fun K23 hK23 => ?_)
  ·refine gov (qtl underlying24 (n := 7)) ?_
   refine hK23 _ _ (fun w M => (ms0 5 7 8 M :)) ?_
   refine gao 9 fun K26 hK26 => ?_
   refine go_slice1 rfl rfl rfl rfl underlying24 ?_
   intro B25
   refine hK26 _ _ (fun w M => (ms0 5 7 8 M :)) ?_
   refine gao 10 fun K28 hK28 => ?_
   refine go_append (n := 5) (m := 8) rfl rfl rfl underlying24 rfl rfl rfl rfl (by omega) ?_
   intro va27 vc27
   refine hK28 _ _ (fun w M => (ms0 5 7 8 M :)) ?_
   refine gav 11 rfl (qtf underlying27 (z := 0) (off := 3)) ?_
   refine gao 12 fun K29 hK29 => ?_
   refine go_storeB (n := 7) rfl rfl rfl rfl (by kernel_rfl) rfl rfl rfl (by first | decide | simp) ?_
   refine hK29 _ _ (fun w M => (ms0 5 7 8 M :)) ?_
   refine ga_done (by kernel_rfl) ?_
   refine gk_block ?_
   refine gk_then (hK22 _ _ ?_)
   refine gc_region ?_
   refine gm ?_
   refine gv (qt_add rfl rfl rfl (by omega)) ?_
   refine gas ?_
   refine g_nil ?_
   rw [smE_def]
   simp only [grow_succ]
   refine gk_then (gk_take 8 ?_)
   refine gk_sub ?hs_30 (hKL19 (y + 1, _, _, _, _, _, _, _, _, _, _) ?hi_30 ?hm_30)
   case hs_30 => repeat first | exact sub_nil | refine sub_cons rfl ?_
   case hi_30 => omega
   case hm_30 => omega
  refine go_slice1 rfl rfl rfl rfl underlying24 ?_
  intro B31
  refine hK23 _ _ (fun w M => (ms0 5 7 8 M :)) ?_
  refine gao 1 fun K33 hK33 => ?_
  refine gov (qtl underlying24 (n := 7)) ?_
  refine hK33 _ _ (fun w M => (ms0 5 7 8 M :)) ?_
  refine gao 10 fun K35 hK35 => ?_
  refine go_append (n := 5) (m := 8) rfl rfl rfl underlying24 rfl rfl rfl rfl (by omega) ?_
  intro va34 vc34
  refine hK35 _ _ (fun w M => (ms0 5 7 8 M :)) ?_
  refine gav 11 rfl (qtf underlying27 (z := 0) (off := 3)) ?_
  refine gao 12 fun K36 hK36 => ?_
  refine go_storeB (n := 7) rfl rfl rfl rfl (by kernel_rfl) rfl rfl rfl (by first | decide | simp) ?_
  refine hK36 _ _ (fun w M => (ms0 5 7 8 M :)) ?_
  refine ga_done (by kernel_rfl) ?_
  refine gk_block ?_
  refine gk_then (hK22 _ _ ?_)
  refine gc_region ?_
  refine gm ?_
  refine gv (qt_add rfl rfl rfl (by omega)) ?_
  refine gas ?_
  refine g_nil ?_
  rw [smE_def]
  simp only [grow_succ]
  refine gk_then (gk_take 8 ?_)
  refine gk_sub ?hs_37 (hKL19 (y + 1, _, _, _, _, _, _, _, _, _, _) ?hi_37 ?hm_37)
  case hs_37 => repeat first | exact sub_nil | refine sub_cons rfl ?_
  case hi_37 => omega
  case hm_37 => omega
 try simp only [sA] at hc0
 refine gc_exit ?_
 refine gk_then_exit ?_
 refine gk_then_exit ?_
 refine gk_block_hit ?_
 refine gk_then (hK17 _ _ ?_)
 refine gc_seq fun K38 hK38 => ?_
 refine gc_seq fun K39 hK39 => ?_
 obtain rfl : y = d.ob.toNat := by omega
 refine gc_region ?_
 refine gas ?_
 refine gnt (hK39 _ _ ?_)
 refine gc_block ?_
 try simp only [sL]
 refine gc_loopT ([(0, _), (1, _), (2, _), (3, _), (4, _), (5, _), (6, _), (7, _), (8, _), (31, _)] : Env) (fun s : Nat × (Option Addr) × Nat × (Option Addr) × Nat × (Option Addr) × Nat × (Option Addr) × Nat × Nat × (List Value) => (fun (f : Nat) (a1 : Option Addr) (q1 : Nat) (a2 : Option Addr) (q2 : Nat) (a3 : Option Addr) (q3 : Nat) (a4 : Option Addr) (nl : Nat) (q4 : Nat) (us : List Value) => (([(9, .int .i64 (f : Int))] : Env), ([(3, own1I (.slice a1 (c.s).length q1) (c.s)), (4, own1I (.slice a2 (c.t).length q2) (c.t)), (5, own1I (.slice a3 (grow c.e (smE c d) d.ob.toNat).length q3) (grow c.e (smE c d) d.ob.toNat)), (6, own2U (.slice a4 nl q4) us (rowsF c.m d.s.length f)), (7, bxI B12 27 [.int .i64 (c.ob + d.ob), .slice a1 (c.s).length q1, .slice a2 (c.t).length q2, .slice a3 (grow c.e (smE c d) d.ob.toNat).length q3, .slice a4 nl q4])] : List (Nat × Itm)), f ≤ c.s.length, c.s.length - f)) s.1 s.2.1 s.2.2.1 s.2.2.2.1 s.2.2.2.2.1 s.2.2.2.2.2.1 s.2.2.2.2.2.2.1 s.2.2.2.2.2.2.2.1 s.2.2.2.2.2.2.2.2.1 s.2.2.2.2.2.2.2.2.2.1 s.2.2.2.2.2.2.2.2.2.2) (0, _, _, _, _, _, _, _, _, _, _) (by repeat first | exact sub_nil | refine sub_cons rfl ?_) rfl (Nat.zero_le _) ?_
 rintro ⟨f, a1, q1, a2, q2, a3, q3, a4, nl, q4, us⟩ hinv KL40 hKL40
 simp only [sU, sL] at hinv hKL40 ⊢
 have hf := hinv
 have hl4 := rowsF_len c.m d.s.length f
 refine gc_seq fun K41 hK41 => ?_
 refine gc_sr fun K42 hK42 => ?_
 refine gm ?_
 refine gv (qtf underlying27 (z := 0) (off := 4)) ?_
 refine gv (qtl underlying25 (n := 7)) ?_
 refine gv (qt_len rfl rfl ulE2 (fun w M => lenV_U (n := 6) rfl M)) ?_
 refine gv (qt_lss rfl rfl rfl) ?_
 refine gnt (hK42 _ _ ?_)
 refine gc_cond rfl (fun hc1 => ?_) (fun hc1 => ?_)
 ·try simp only [sA] at hc1
  refine gc_skip ?_
  refine gk_then (hK41 _ _ ?_)
  refine gc_seq fun K43 hK43 => ?_
  refine gc_block ?_
  refine gc_sr fun K44 hK44 => ?_
  refine gas ?_
  refine gnt (hK44 _ _ ?_)
  refine gc_block ?_
  try simp only [sL]
  refine gc_loopT ([(0, _), (1, _), (2, _), (3, _), (4, _), (5, _), (6, _), (7, _), (8, _), (9, _), (31, _), (50, _)] : Env) (fun s : Nat × (Option Addr) × Nat × (Option Addr) × Nat × (Option Addr) × Nat × (Option Addr) × Nat × Nat × (List Value) => (fun (g : Nat) (a1 : Option Addr) (q1 : Nat) (a2 : Option Addr) (q2 : Nat) (a3 : Option Addr) (q3 : Nat) (a4 : Option Addr) (nl : Nat) (q4 : Nat) (us : List Value) => (([(10, .int .i64 (g : Int))] : Env), ([(3, own1I (.slice a1 (c.s).length q1) (c.s)), (4, own1I (.slice a2 (c.t).length q2) (c.t)), (5, own1I (.slice a3 (grow c.e (smE c d) d.ob.toNat).length q3) (grow c.e (smE c d) d.ob.toNat)), (6, own2U (.slice a4 nl q4) us (iterR f g (rowsF c.m d.s.length f))), (7, bxI B12 27 [.int .i64 (c.ob + d.ob), .slice a1 (c.s).length q1, .slice a2 (c.t).length q2, .slice a3 (grow c.e (smE c d) d.ob.toNat).length q3, .slice a4 nl q4])] : List (Nat × Itm)), g ≤ d.s.length, d.s.length - g)) s.1 s.2.1 s.2.2.1 s.2.2.2.1 s.2.2.2.2.1 s.2.2.2.2.2.1 s.2.2.2.2.2.2.1 s.2.2.2.2.2.2.2.1 s.2.2.2.2.2.2.2.2.1 s.2.2.2.2.2.2.2.2.2.1 s.2.2.2.2.2.2.2.2.2.2) (0, _, _, _, _, _, _, _, _, _, _) (by repeat first | exact sub_nil | refine sub_cons rfl ?_) rfl (Nat.zero_le _) ?_
  rintro ⟨g, a1, q1, a2, q2, a3, q3, a4, nl, q4, us⟩ hinv KL45 hKL45
  simp only [sU, sL] at hinv hKL45 ⊢
  have hg := hinv
  refine gc_seq fun K46 hK46 => ?_
  refine gc_sr fun K47 hK47 => ?_
  refine gm ?_
  refine gv (qtf underlying27 (z := 0) (off := 1)) ?_
  refine gv (qtl underlying24 (n := 1)) ?_
  refine gv (qln (fun w M => lenV_rd e1)) ?_
  refine gv (qt_lss rfl rfl rfl) ?_
  refine gnt (hK47 _ _ ?_)
  refine gc_cond rfl (fun hc2 => ?_) (fun hc2 => ?_)
  ·try simp only [sA] at hc2
   refine gc_skip ?_
   refine gk_then (hK46 _ _ ?_)
   refine gc_seq fun K48 hK48 => ?_
   refine gc_block ?_
   have hrl := iterR_len f g (rowsF c.m d.s.length f)
   have hrl2 := rowsF_len c.m d.s.length f
   have hro : (row2 (iterR f g (rowsF c.m d.s.length f)) (f : Int)).length ≤ 80 := by rw [iterR_row (by omega), if_pos rfl, rowsF_row f (by omega), if_neg (by omega), List.length_append, List.length_replicate]; have := (arrP hS (f := (f : Int)) (by omega) (by omega)).row; omega
   try simp only [sL]
   refine ga_start _ (fun w M => mem_erase 6 (M)) ?_
   refine gav 0 rfl (qtf underlying27 (z := 0) (off := 4)) ?_
   refine gav 1 rfl (qtl underlying25 (n := 6)) ?_
   refine gav 2 rfl (qt_move rfl rfl) ?_
   refine gav 3 rfl (qtf underlying27 (z := 0) (off := 4)) ?_
   refine gav 4 rfl (qtl underlying25 (n := 6)) ?_
   refine gav 5 rfl (qt_move rfl rfl) ?_
   refine gat 6 8 (fun K49 hK49 => ?_) (fun K49 hK49 => ?_)
   ·refine gov (qti2 (fun w M => lenA_U (n := 6) rfl M)) ?_
    refine hK49 _ _ (fun w M => (ms1 6 8 M :)) ?_
    refine gat 7 8 (fun K51 hK51 => ?_) (fun K51 hK51 => ?_)
    ·refine gov (qt_loadU (n := 6) rfl rfl underlying24 rfl rfl (by omega) (by omega)) ?_
     refine hK51 _ _ (fun w M => (ms1 6 8 M :)) ?_
     refine gao 8 fun K54 hK54 => ?_
     refine go_slice1 rfl rfl rfl rfl underlying24 ?_
     intro B53
     refine hK54 _ _ (fun w M => (ms1 6 8 M :)) ?_
     refine gao 9 fun K56 hK56 => ?_
     refine go_appendHole (n := 6) (m := 8) rfl rfl rfl underlying24 rfl rfl rfl rfl (by decide) (by omega) (by omega) (by omega) ?_
     intro va55 vc55
     refine hK56 _ _ (fun w M => (ms1 6 8 M :)) ?_
     refine gao 10 fun K57 hK57 => ?_
     refine gov (qti2 (fun w M => lenA_H (n := 6) rfl M)) ?_
     refine hK57 _ _ (fun w M => (ms1 6 8 M :)) ?_
     refine gao 11 fun K58 hK58 => ?_
     refine go_storeH (n := 6) (m := 9) (m' := 8) rfl rfl rfl rfl (by kernel_rfl) rfl rfl rfl rfl (by omega) (by omega) ?_
     refine hK58 _ _ (fun w M => (ms1 6 8 M :)) ?_
     refine ga_done (by kernel_rfl) ?_
     refine gk_block ?_
     refine gk_then (hK48 _ _ ?_)
     refine gc_region ?_
     refine gm ?_
     refine gv (qt_add rfl rfl rfl (by omega)) ?_
     refine gas ?_
     refine g_nil ?_
     simp only [Int.toNat_natCast, iterR_step]
     refine gk_then (gk_take 8 ?_)
     refine gk_sub ?hs_59 (hKL45 (g + 1, _, _, _, _, _, _, _, _, _, _) ?hi_59 ?hm_59)
     case hs_59 => repeat first | exact sub_nil | refine sub_cons rfl ?_
     case hi_59 => omega
     case hm_59 => omega
    refine go_slice1 rfl rfl rfl rfl underlying24 ?_
    intro B60
    refine hK51 _ _ (fun w M => (ms1 6 8 M :)) ?_
    refine gao 7 fun K62 hK62 => ?_
    refine gov (qt_loadU (n := 6) rfl rfl underlying24 rfl rfl (by omega) (by omega)) ?_
    refine hK62 _ _ (fun w M => (ms1 6 8 M :)) ?_
    refine gao 9 fun K64 hK64 => ?_
    refine go_appendHole (n := 6) (m := 8) rfl rfl rfl underlying24 rfl rfl rfl rfl (by decide) (by omega) (by omega) (by omega) ?_
    intro va63 vc63
    refine hK64 _ _ (fun w M => (ms1 6 8 M :)) ?_
    refine gao 10 fun K65 hK65 => ?_
    refine gov (qti2 (fun w M => lenA_H (n := 6) rfl M)) ?_
    refine hK65 _ _ (fun w M => (ms1 6 8 M :)) ?_
    refine gao 11 fun K66 hK66 => ?_
    refine go_storeH (n := 6) (m := 9) (m' := 8) rfl rfl rfl rfl (by kernel_rfl) rfl rfl rfl rfl (by omega) (by omega) ?_
    refine hK66 _ _ (fun w M => (ms1 6 8 M :)) ?_
    refine ga_done (by kernel_rfl) ?_
    refine gk_block ?_
    refine gk_then (hK48 _ _ ?_)
    refine gc_region ?_
    refine gm ?_
    refine gv (qt_add rfl rfl rfl (by omega)) ?_
    refine gas ?_
    refine g_nil ?_
    simp only [Int.toNat_natCast, iterR_step]
    refine gk_then (gk_take 8 ?_)
    refine gk_sub ?hs_67 (hKL45 (g + 1, _, _, _, _, _, _, _, _, _, _) ?hi_67 ?hm_67)
    case hs_67 => repeat first | exact sub_nil | refine sub_cons rfl ?_
    case hi_67 => omega
    case hm_67 => omega
   refine go_slice1 rfl rfl rfl rfl underlying24 ?_
   intro B68
   refine hK49 _ _ (fun w M => (ms1 6 8 M :)) ?_
   refine gao 6 fun K70 hK70 => ?_
   refine gov (qti2 (fun w M => lenA_U (n := 6) rfl M)) ?_
   refine hK70 _ _ (fun w M => (ms1 6 8 M :)) ?_
   refine gao 7 fun K71 hK71 => ?_
   refine gov (qt_loadU (n := 6) rfl rfl underlying24 rfl rfl (by omega) (by omega)) ?_
   refine hK71 _ _ (fun w M => (ms1 6 8 M :)) ?_
   refine gao 9 fun K73 hK73 => ?_
   refine go_appendHole (n := 6) (m := 8) rfl rfl rfl underlying24 rfl rfl rfl rfl (by decide) (by omega) (by omega) (by omega) ?_
   intro va72 vc72
   refine hK73 _ _ (fun w M => (ms1 6 8 M :)) ?_
   refine gao 10 fun K74 hK74 => ?_
   refine gov (qti2 (fun w M => lenA_H (n := 6) rfl M)) ?_
   refine hK74 _ _ (fun w M => (ms1 6 8 M :)) ?_
   refine gao 11 fun K75 hK75 => ?_
   refine go_storeH (n := 6) (m := 9) (m' := 8) rfl rfl rfl rfl (by kernel_rfl) rfl rfl rfl rfl (by omega) (by omega) ?_
   refine hK75 _ _ (fun w M => (ms1 6 8 M :)) ?_
   refine ga_done (by kernel_rfl) ?_
   refine gk_block ?_
   refine gk_then (hK48 _ _ ?_)
   refine gc_region ?_
   refine gm ?_
   refine gv (qt_add rfl rfl rfl (by omega)) ?_
   refine gas ?_
   refine g_nil ?_
   simp only [Int.toNat_natCast, iterR_step]
   refine gk_then (gk_take 8 ?_)
   refine gk_sub ?hs_76 (hKL45 (g + 1, _, _, _, _, _, _, _, _, _, _) ?hi_76 ?hm_76)
   case hs_76 => repeat first | exact sub_nil | refine sub_cons rfl ?_
   case hi_76 => omega
   case hm_76 => omega
  try simp only [sA] at hc2
  refine gc_exit ?_
  refine gk_then_exit ?_
  refine gk_then_exit ?_
  refine gk_block_hit ?_
  refine gk_block ?_
  refine gk_then (hK43 _ _ ?_)
  refine gc_region ?_
  refine gm ?_
  refine gv (qt_add rfl rfl rfl (by omega)) ?_
  refine gas ?_
  refine g_nil ?_
  obtain rfl : g = d.s.length := by omega
  refine gk_then (gk_take 8 ?_)
  refine gk_sub ?hs_77 (hKL40 (f + 1, _, _, _, _, _, _, _, _, _, _) ?hi_77 ?hm_77)
  case hs_77 => repeat first | exact sub_nil | refine sub_cons rfl ?_
  case hi_77 => omega
  case hm_77 => omega
 try simp only [sA] at hc1
 refine gc_exit ?_
 refine gk_then_exit ?_
 refine gk_then_exit ?_
 refine gk_block_hit ?_
 refine gk_then (hK38 _ _ ?_)
 refine gc_seq fun K78 hK78 => ?_
 refine gc_seq fun K79 hK79 => ?_
 obtain rfl : f = c.s.length := by omega
 refine gc_region ?_
 refine gas ?_
 refine gnt (hK79 _ _ ?_)
 refine gc_block ?_
 try simp only [sL]
 refine gc_loopT ([(0, _), (1, _), (2, _), (3, _), (4, _), (5, _), (6, _), (7, _), (8, _), (9, _), (31, _), (50, _)] : Env) (fun s : Nat × (Option Addr) × Nat × (Option Addr) × Nat × (Option Addr) × Nat × (Option Addr) × Nat × Nat × (List Value) => (fun (i : Nat) (a1 : Option Addr) (q1 : Nat) (a2 : Option Addr) (q2 : Nat) (a3 : Option Addr) (q3 : Nat) (a4 : Option Addr) (nl : Nat) (q4 : Nat) (us : List Value) => (([(11, .int .i64 (i : Int))] : Env), ([(3, own1I (.slice a1 (grow c.s (smS c d) i).length q1) (grow c.s (smS c d) i)), (4, own1I (.slice a2 (grow c.t (smT c d) i).length q2) (grow c.t (smT c d) i)), (5, own1I (.slice a3 (grow c.e (smE c d) d.ob.toNat).length q3) (grow c.e (smE c d) d.ob.toNat)), (6, own2U (.slice a4 nl q4) us (growR (rowsF c.m d.s.length c.s.length) (smR c d) i)), (7, bxI B12 27 [.int .i64 (c.ob + d.ob), .slice a1 (grow c.s (smS c d) i).length q1, .slice a2 (grow c.t (smT c d) i).length q2, .slice a3 (grow c.e (smE c d) d.ob.toNat).length q3, .slice a4 nl q4])] : List (Nat × Itm)), i ≤ d.s.length, d.s.length - i)) s.1 s.2.1 s.2.2.1 s.2.2.2.1 s.2.2.2.2.1 s.2.2.2.2.2.1 s.2.2.2.2.2.2.1 s.2.2.2.2.2.2.2.1 s.2.2.2.2.2.2.2.2.1 s.2.2.2.2.2.2.2.2.2.1 s.2.2.2.2.2.2.2.2.2.2) (0, _, _, _, _, _, _, _, _, _, _) (by repeat first | exact sub_nil | refine sub_cons rfl ?_) rfl (Nat.zero_le _) ?_
 rintro ⟨i, a1, q1, a2, q2, a3, q3, a4, nl, q4, us⟩ hinv KL80 hKL80
 simp only [sU, sL] at hinv hKL80 ⊢
 have hi := hinv
 have hl5 := grow_len c.s (smS c d) i
 have hl6 := grow_len c.t (smT c d) i
 have hl7 := growR_len (rowsF c.m d.s.length c.s.length) (smR c d) i
 have hl8 := rowsF_len c.m d.s.length c.s.length
 refine gc_seq fun K81 hK81 => ?_
 refine gc_sr fun K82 hK82 => ?_
 refine gm ?_
 refine gv (qtf underlying27 (z := 0) (off := 1)) ?_
 refine gv (qtl underlying24 (n := 1)) ?_
 refine gv (qln (fun w M => lenV_rd e1)) ?_
 refine gv (qt_lss rfl rfl rfl) ?_
 refine gnt (hK82 _ _ ?_)
 refine gc_cond rfl (fun hc3 => ?_) (fun hc3 => ?_)
 ·try simp only [sA] at hc3
  refine gc_skip ?_
  refine gk_then (hK81 _ _ ?_)
  refine gc_seq fun K83 hK83 => ?_
  refine gc_block ?_
  refine gc_seq fun K84 hK84 => ?_
  have i1 := at_lt2 gS.sa (k := i) (by omega)
  have j1 := at_lt2 gS.ta (k := i) (by omega)
  try simp only [sL]
  refine ga_start _ (fun w M => mem_erase 3 (mem_erase 7 (M))) ?_
  refine gav 0 rfl (qtf underlying27 (z := 0) (off := 1)) ?_
  refine gav 2 rfl (qtf underlying27 (z := 0) (off := 1)) ?_
  refine gav 3 rfl (qtl underlying24 (n := 1)) ?_
  refine gav 4 rfl (qt_move rfl rfl) ?_
  refine gav 5 rfl (qti (fun w M => lenA_rd e1)) ?_
  refine gav 6 rfl (qtd (fun w M => mem_rd M e1)) ?_
  refine gav 7 rfl (qt_move rfl rfl) ?_
  refine gav 8 rfl (qt_add rfl rfl rfl (by omega)) ?_
  refine gat 1 9 (fun K85 hK85 => ?_) (fun K85 hK85 => ?_)
  ·refine gov (qtl underlying24 (n := 7)) ?_
   refine hK85 _ _ (fun w M => (ms0 3 7 8 M :)) ?_
   refine gao 9 fun K88 hK88 => ?_
   refine go_slice1 rfl rfl rfl rfl underlying24 ?_
   intro B87
   refine hK88 _ _ (fun w M => (ms0 3 7 8 M :)) ?_
   refine gao 10 fun K90 hK90 => ?_
   refine go_append (n := 3) (m := 8) rfl rfl rfl underlying24 rfl rfl rfl rfl (by omega) ?_
   intro va89 vc89
   refine hK90 _ _ (fun w M => (ms0 3 7 8 M :)) ?_
   refine gav 11 rfl (qtf underlying27 (z := 0) (off := 1)) ?_
   refine gao 12 fun K91 hK91 => ?_
   refine go_storeB (n := 7) rfl rfl rfl rfl (by kernel_rfl) rfl rfl rfl (by first | decide | simp) ?_
   refine hK91 _ _ (fun w M => (ms0 3 7 8 M :)) ?_
   refine ga_done (by kernel_rfl) ?_
   refine gk_then (hK84 _ _ ?_)
   refine gc_seq fun K92 hK92 => ?_
   try simp only [sL]
   refine ga_start _ (fun w M => mem_erase 4 (mem_erase 7 (M))) ?_
   refine gav 0 rfl (qtf underlying27 (z := 0) (off := 2)) ?_
   refine gav 2 rfl (qtf underlying27 (z := 0) (off := 2)) ?_
   refine gav 3 rfl (qtl underlying24 (n := 1)) ?_
   refine gav 4 rfl (qt_move rfl rfl) ?_
   refine gav 5 rfl (qti (fun w M => lenA_rd e2)) ?_
   refine gav 6 rfl (qtd (fun w M => mem_rd M e2)) ?_
   refine gav 7 rfl (qt_move rfl rfl) ?_
   refine gav 8 rfl (qt_add rfl rfl rfl (by omega)) ?_
   refine gat 1 9 (fun K93 hK93 => ?_) (fun K93 hK93 => ?_)
   ·refine gov (qtl underlying24 (n := 7)) ?_
    refine hK93 _ _ (fun w M => (ms0 4 7 9 M :)) ?_
    refine gao 9 fun K96 hK96 => ?_
    refine go_slice1 rfl rfl rfl rfl underlying24 ?_
    intro B95
    refine hK96 _ _ (fun w M => (ms0 4 7 9 M :)) ?_
    refine gao 10 fun K98 hK98 => ?_
    refine go_append (n := 4) (m := 9) rfl rfl rfl underlying24 rfl rfl rfl rfl (by omega) ?_
    intro va97 vc97
    refine hK98 _ _ (fun w M => (ms0 4 7 9 M :)) ?_
    refine gav 11 rfl (qtf underlying27 (z := 0) (off := 2)) ?_
    refine gao 12 fun K99 hK99 => ?_
    refine go_storeB (n := 7) rfl rfl rfl rfl (by kernel_rfl) rfl rfl rfl (by first | decide | simp) ?_
    refine hK99 _ _ (fun w M => (ms0 4 7 9 M :)) ?_
    refine ga_done (by kernel_rfl) ?_
    refine gk_then (hK92 _ _ ?_)
    refine gc_sr fun K100 hK100 => ?_
    refine gop fun K102 hK102 => ?_
    refine go_slice0 rfl rfl rfl underlying24 ?_
    intro B101
    refine hK102 _ _ ?_
    refine gas ?_
    refine gnt (hK100 _ _ ?_)
    refine gc_seq fun K103 hK103 => ?_
    refine gc_sr fun K104 hK104 => ?_
    refine gas ?_
    refine gnt (hK104 _ _ ?_)
    refine gc_block ?_
    try simp only [sL]
    refine gc_loopT ([(0, _), (1, _), (2, _), (3, _), (4, _), (5, _), (6, _), (7, _), (8, _), (9, _), (11, _), (31, _), (50, _), (75, _)] : Env) (fun s : Nat × (Option Addr) × Nat => (fun (l : Nat) (z : Option Addr) (p : Nat) => (([(12, .slice z (tabTo (smX c d i) l).length p), (13, .int .i64 (l : Int))] : Env), ([(10, own1I (.slice z (tabTo (smX c d i) l).length p) (tabTo (smX c d i) l))] : List (Nat × Itm)), l ≤ c.s.length, c.s.length - l)) s.1 s.2.1 s.2.2) (0, _, _) (by repeat first | exact sub_nil | refine sub_cons rfl ?_) rfl (Nat.zero_le _) ?_
    rintro ⟨l, z, p⟩ hinv KL105 hKL105
    simp only [sU, sL] at hinv hKL105 ⊢
    have hl := hinv
    have hl9 := tabTo_len (smX c d i) l
    refine gc_seq fun K106 hK106 => ?_
    refine gc_sr fun K107 hK107 => ?_
    refine gm ?_
    refine gm ?_
    refine gv (qt_lss rfl rfl rfl) ?_
    refine gnt (hK107 _ _ ?_)
    refine gc_cond rfl (fun hc4 => ?_) (fun hc4 => ?_)
    ·try simp only [sA] at hc4
     refine gc_skip ?_
     refine gk_then (hK106 _ _ ?_)
     refine gc_seq fun K108 hK108 => ?_
     refine gc_block ?_
     refine gc_region ?_
     refine gm ?_
     refine gop fun K110 hK110 => ?_
     refine go_slice1 rfl rfl rfl rfl underlying24 ?_
     intro B109
     refine hK110 _ _ ?_
     refine gop fun K112 hK112 => ?_
     refine go_append (n := 10) (m := 11) rfl rfl rfl underlying24 rfl rfl rfl rfl (by omega) ?_
     intro va111 vc111
     refine hK112 _ _ ?_
     refine gas ?_
     refine g_nil ?_
     refine gk_block ?_
     refine gk_then (hK108 _ _ ?_)
     refine gc_region ?_
     refine gm ?_
     refine gv (qt_add rfl rfl rfl (by omega)) ?_
     refine gas ?_
     refine g_nil ?_
     rw [smX_t (c := c) (d := d) (j := i) (l := l) (by omega)]
     simp only [tabTo_succ]
     refine gk_then (gk_take 11 ?_)
     refine gk_sub ?hs_113 (hKL105 (l + 1, _, _) ?hi_113 ?hm_113)
     case hs_113 => repeat first | exact sub_nil | refine sub_cons rfl ?_
     case hi_113 => omega
     case hm_113 => omega
    try simp only [sA] at hc4
    refine gc_exit ?_
    refine gk_then_exit ?_
    refine gk_then_exit ?_
    refine gk_block_hit ?_
    refine gk_then (hK103 _ _ ?_)
    refine gc_seq fun K114 hK114 => ?_
    refine gc_seq fun K115 hK115 => ?_
    obtain rfl : l = c.s.length := by omega
    refine gc_region ?_
    refine gas ?_
    refine gnt (hK115 _ _ ?_)
    refine gc_block ?_
    try simp only [sL]
    refine gc_loopT ([(0, _), (1, _), (2, _), (3, _), (4, _), (5, _), (6, _), (7, _), (8, _), (9, _), (11, _), (13, _), (31, _), (50, _), (75, _), (105, _)] : Env) (fun s : Nat × (Option Addr) × Nat => (fun (j : Nat) (z : Option Addr) (p : Nat) => (([(12, .slice z (tabTo (smX c d i) (c.s.length + j)).length p), (14, .int .i64 (j : Int))] : Env), ([(10, own1I (.slice z (tabTo (smX c d i) (c.s.length + j)).length p) (tabTo (smX c d i) (c.s.length + j)))] : List (Nat × Itm)), j ≤ d.s.length, d.s.length - j)) s.1 s.2.1 s.2.2) (0, _, _) (by repeat first | exact sub_nil | refine sub_cons rfl ?_) rfl (Nat.zero_le _) ?_
    rintro ⟨j, z, p⟩ hinv KL116 hKL116
    simp only [sU, sL] at hinv hKL116 ⊢
    have hj := hinv
    have hl9 := tabTo_len (smX c d i) (c.s.length + j)
    refine gc_seq fun K117 hK117 => ?_
    refine gc_sr fun K118 hK118 => ?_
    refine gm ?_
    refine gv (qtf underlying27 (z := 0) (off := 1)) ?_
    refine gv (qtl underlying24 (n := 1)) ?_
    refine gv (qln (fun w M => lenV_rd e1)) ?_
    refine gv (qt_lss rfl rfl rfl) ?_
    refine gnt (hK118 _ _ ?_)
    refine gc_cond rfl (fun hc5 => ?_) (fun hc5 => ?_)
    ·try simp only [sA] at hc5
     refine gc_skip ?_
     refine gk_then (hK117 _ _ ?_)
     refine gc_seq fun K119 hK119 => ?_
     refine gc_block ?_
     refine gc_seq fun K120 hK120 => ?_
     have r1 := arrP gS (f := (i : Int)) (by omega) (by omega)
     have r2 := r1.fm; have r3 := r1.row
     have t1 := th_lt2 gS (f := i) (g := j) (by omega) (by omega)
     refine gc_region ?_
     refine gv (qtf underlying27 (z := 0) (off := 4)) ?_
     refine gv (qtl underlying25 (n := 1)) ?_
     refine gm ?_
     refine gv (qti2 (fun w M => lenA_rd2 e4)) ?_
     refine g_load2 (.free rfl) rfl rfl rfl rfl underlying24 rfl e4 (by omega) (by omega) ?_
     intro ra121 rc121 hr121
     refine gm ?_
     refine gv (qti (fun w M => lenA_rd hr121)) ?_
     refine gv (qtd (fun w M => mem_rd M hr121)) ?_
     refine gas ?_
     refine gnt (hK120 _ _ ?_)
     refine gc_seq fun K122 hK122 => ?_
     refine gc_sr fun K123 hK123 => ?_
     refine gm ?_
     refine gv (qt_geq rfl rfl rfl) ?_
     refine gnt (hK123 _ _ ?_)
     refine gc_cond rfl (fun hc6 => ?_) (fun hc6 => ?_)
     ·try simp only [sA] at hc6
      refine gc_region ?_
      refine gm ?_
      refine gm ?_
      refine gv (qt_add rfl rfl rfl (by omega)) ?_
      refine gas ?_
      refine gnt (hK122 _ _ ?_)
      refine gc_region ?_
      refine gm ?_
      refine gm ?_
      refine gop fun K125 hK125 => ?_
      refine go_slice1 rfl rfl rfl rfl underlying24 ?_
      intro B124
      refine hK125 _ _ ?_
      refine gop fun K127 hK127 => ?_
      refine go_append (n := 10) (m := 11) rfl rfl rfl underlying24 rfl rfl rfl rfl (by omega) ?_
      intro va126 vc126
      refine hK127 _ _ ?_
      refine gas ?_
      refine g_nil ?_
      refine gk_block ?_
      refine gk_then (hK119 _ _ ?_)
      refine gc_region ?_
      refine gm ?_
      refine gv (qt_add rfl rfl rfl (by omega)) ?_
      refine gas ?_
      refine g_nil ?_
      rw [smC_t (c := c) (d := d) (j := i) (l := j) (by assumption), smX_f]
      simp only [tabTo_succ, Nat.add_assoc]
      refine gk_then (gk_take 11 ?_)
      refine gk_sub ?hs_128 (hKL116 (j + 1, _, _) ?hi_128 ?hm_128)
      case hs_128 => repeat first | exact sub_nil | refine sub_cons rfl ?_
      case hi_128 => omega
      case hm_128 => omega
     try simp only [sA] at hc6
     refine gc_skip ?_
     refine gk_then (hK122 _ _ ?_)
     refine gc_region ?_
     refine gm ?_
     refine gm ?_
     refine gop fun K130 hK130 => ?_
     refine go_slice1 rfl rfl rfl rfl underlying24 ?_
     intro B129
     refine hK130 _ _ ?_
     refine gop fun K132 hK132 => ?_
     refine go_append (n := 10) (m := 11) rfl rfl rfl underlying24 rfl rfl rfl rfl (by omega) ?_
     intro va131 vc131
     refine hK132 _ _ ?_
     refine gas ?_
     refine g_nil ?_
     refine gk_block ?_
     refine gk_then (hK119 _ _ ?_)
     refine gc_region ?_
     refine gm ?_
     refine gv (qt_add rfl rfl rfl (by omega)) ?_
     refine gas ?_
     refine g_nil ?_
     rw [smC_f (c := c) (d := d) (j := i) (l := j) (by omega), smX_f]
     simp only [tabTo_succ, Nat.add_assoc]
     refine gk_then (gk_take 11 ?_)
     refine gk_sub ?hs_133 (hKL116 (j + 1, _, _) ?hi_133 ?hm_133)
     case hs_133 => repeat first | exact sub_nil | refine sub_cons rfl ?_
     case hi_133 => omega
     case hm_133 => omega
    try simp only [sA] at hc5
    refine gc_exit ?_
    refine gk_then_exit ?_
    refine gk_then_exit ?_
    refine gk_block_hit ?_
    refine gk_then (hK114 _ _ ?_)
    refine gc_region ?_
    refine gv (qtf underlying27 (z := 0) (off := 4)) ?_
    refine gv (qtl underlying25 (n := 7)) ?_
    refine gm ?_
    refine gop fun K135 hK135 => ?_
    refine go_sliceR1 (m := 10) rfl rfl rfl rfl underlying25 rfl ?_
    intro B134
    refine hK135 _ _ ?_
    refine gop fun K137 hK137 => ?_
    refine go_appendRow (n := 6) (m := 10) (m' := 9) rfl rfl rfl underlying25 rfl rfl rfl rfl rfl (by omega) ?_
    intro va136 vc136
    refine hK137 _ _ ?_
    refine gv (qtf underlying27 (z := 0) (off := 4)) ?_
    refine gop fun K138 hK138 => ?_
    refine go_storeB (n := 7) rfl rfl rfl rfl (by kernel_rfl) rfl rfl rfl (by first | decide | simp) ?_
    refine hK138 _ _ ?_
    refine g_nil ?_
    refine gk_block ?_
    refine gk_then (hK83 _ _ ?_)
    refine gc_region ?_
    refine gm ?_
    refine gv (qt_add rfl rfl rfl (by omega)) ?_
    refine gas ?_
    refine g_nil ?_
    obtain rfl : j = d.s.length := by omega
    rw [smR_def, smS_def, smT_def]
    simp only [grow_succ, growR_succ]
    refine gk_then (gk_take 8 ?_)
    refine gk_sub ?hs_139 (hKL80 (i + 1, _, _, _, _, _, _, _, _, _, _) ?hi_139 ?hm_139)
    case hs_139 => repeat first | exact sub_nil | refine sub_cons rfl ?_
    case hi_139 => omega
    case hm_139 => omega
   refine go_slice1 rfl rfl rfl rfl underlying24 ?_
   intro B140
   refine hK93 _ _ (fun w M => (ms0 4 7 9 M :)) ?_
   refine gao 1 fun K142 hK142 => ?_
   refine gov (qtl underlying24 (n := 7)) ?_
   refine hK142 _ _ (fun w M => (ms0 4 7 9 M :)) ?_
   refine gao 10 fun K144 hK144 => ?_
   refine go_append (n := 4) (m := 9) rfl rfl rfl underlying24 rfl rfl rfl rfl (by omega) ?_
   intro va143 vc143
   refine hK144 _ _ (fun w M => (ms0 4 7 9 M :)) ?_
   refine gav 11 rfl (qtf underlying27 (z := 0) (off := 2)) ?_
   refine gao 12 fun K145 hK145 => ?_
   refine go_storeB (n := 7) rfl rfl rfl rfl (by kernel_rfl) rfl rfl rfl (by first | decide | simp) ?_
   refine hK145 _ _ (fun w M => (ms0 4 7 9 M :)) ?_
   refine ga_done (by kernel_rfl) ?_
   refine gk_then (hK92 _ _ ?_)
   refine gc_sr fun K146 hK146 => ?_
   refine gop fun K148 hK148 => ?_
   refine go_slice0 rfl rfl rfl underlying24 ?_
   intro B147
   refine hK148 _ _ ?_
   refine gas ?_
   refine gnt (hK146 _ _ ?_)
   refine gc_seq fun K149 hK149 => ?_
   refine gc_sr fun K150 hK150 => ?_
   refine gas ?_
   refine gnt (hK150 _ _ ?_)
   refine gc_block ?_
   try simp only [sL]
   refine gc_loopT ([(0, _), (1, _), (2, _), (3, _), (4, _), (5, _), (6, _), (7, _), (8, _), (9, _), (11, _), (31, _), (50, _), (75, _)] : Env) (fun s : Nat × (Option Addr) × Nat => (fun (l : Nat) (z : Option Addr) (p : Nat) => (([(12, .slice z (tabTo (smX c d i) l).length p), (13, .int .i64 (l : Int))] : Env), ([(10, own1I (.slice z (tabTo (smX c d i) l).length p) (tabTo (smX c d i) l))] : List (Nat × Itm)), l ≤ c.s.length, c.s.length - l)) s.1 s.2.1 s.2.2) (0, _, _) (by repeat first | exact sub_nil | refine sub_cons rfl ?_) rfl (Nat.zero_le _) ?_
   rintro ⟨l, z, p⟩ hinv KL151 hKL151
   simp only [sU, sL] at hinv hKL151 ⊢
   have hl := hinv
   have hl9 := tabTo_len (smX c d i) l
   refine gc_seq fun K152 hK152 => ?_
   refine gc_sr fun K153 hK153 => ?_
   refine gm ?_
   refine gm ?_
   refine gv (qt_lss rfl rfl rfl) ?_
   refine gnt (hK153 _ _ ?_)
   refine gc_cond rfl (fun hc7 => ?_) (fun hc7 => ?_)
   ·try simp only [sA] at hc7
    refine gc_skip ?_
    refine gk_then (hK152 _ _ ?_)
    refine gc_seq fun K154 hK154 => ?_
    refine gc_block ?_
    refine gc_region ?_
    refine gm ?_
    refine gop fun K156 hK156 => ?_
    refine go_slice1 rfl rfl rfl rfl underlying24 ?_
    intro B155
    refine hK156 _ _ ?_
    refine gop fun K158 hK158 => ?_
    refine go_append (n := 10) (m := 11) rfl rfl rfl underlying24 rfl rfl rfl rfl (by omega) ?_
    intro va157 vc157
    refine hK158 _ _ ?_
    refine gas ?_
    refine g_nil ?_
    refine gk_block ?_
    refine gk_then (hK154 _ _ ?_)
    refine gc_region ?_
    refine gm ?_
    refine gv (qt_add rfl rfl rfl (by omega)) ?_
    refine gas ?_
    refine g_nil ?_
    rw [smX_t (c := c) (d := d) (j := i) (l := l) (by omega)]
    simp only [tabTo_succ]
    refine gk_then (gk_take 11 ?_)
    refine gk_sub ?hs_159 (hKL151 (l + 1, _, _) ?hi_159 ?hm_159)
    case hs_159 => repeat first | exact sub_nil | refine sub_cons rfl ?_
    case hi_159 => omega
    case hm_159 => omega
   try simp only [sA] at hc7
   refine gc_exit ?_
   refine gk_then_exit ?_
   refine gk_then_exit ?_
   refine gk_block_hit ?_
   refine gk_then (hK149 _ _ ?_)
   refine gc_seq fun K160 hK160 => ?_
   refine gc_seq fun K161 hK161 => ?_
   obtain rfl : l = c.s.length := by omega
   refine gc_region ?_
   refine gas ?_
   refine gnt (hK161 _ _ ?_)
   refine gc_block ?_
   try simp only [sL]
   refine gc_loopT ([(0, _), (1, _), (2, _), (3, _), (4, _), (5, _), (6, _), (7, _), (8, _), (9, _), (11, _), (13, _), (31, _), (50, _), (75, _), (105, _)] : Env) (fun s : Nat × (Option Addr) × Nat => (fun (j : Nat) (z : Option Addr) (p : Nat) => (([(12, .slice z (tabTo (smX c d i) (c.s.length + j)).length p), (14, .int .i64 (j : Int))] : Env), ([(10, own1I (.slice z (tabTo (smX c d i) (c.s.length + j)).length p) (tabTo (smX c d i) (c.s.length + j)))] : List (Nat × Itm)), j ≤ d.s.length, d.s.length - j)) s.1 s.2.1 s.2.2) (0, _, _) (by repeat first | exact sub_nil | refine sub_cons rfl ?_) rfl (Nat.zero_le _) ?_
   rintro ⟨j, z, p⟩ hinv KL162 hKL162
   simp only [sU, sL] at hinv hKL162 ⊢
   have hj := hinv
   have hl9 := tabTo_len (smX c d i) (c.s.length + j)
   refine gc_seq fun K163 hK163 => ?_
   refine gc_sr fun K164 hK164 => ?_
   refine gm ?_
   refine gv (qtf underlying27 (z := 0) (off := 1)) ?_
   refine gv (qtl underlying24 (n := 1)) ?_
   refine gv (qln (fun w M => lenV_rd e1)) ?_
   refine gv (qt_lss rfl rfl rfl) ?_
   refine gnt (hK164 _ _ ?_)
   refine gc_cond rfl (fun hc8 => ?_) (fun hc8 => ?_)
   ·try simp only [sA] at hc8
    refine gc_skip ?_
    refine gk_then (hK163 _ _ ?_)
    refine gc_seq fun K165 hK165 => ?_
    refine gc_block ?_
    refine gc_seq fun K166 hK166 => ?_
    have r1 := arrP gS (f := (i : Int)) (by omega) (by omega)
    have r2 := r1.fm; have r3 := r1.row
    have t1 := th_lt2 gS (f := i) (g := j) (by omega) (by omega)
    refine gc_region ?_
    refine gv (qtf underlying27 (z := 0) (off := 4)) ?_
    refine gv (qtl underlying25 (n := 1)) ?_
    refine gm ?_
    refine gv (qti2 (fun w M => lenA_rd2 e4)) ?_
    refine g_load2 (.free rfl) rfl rfl rfl rfl underlying24 rfl e4 (by omega) (by omega) ?_
    intro ra167 rc167 hr167
    refine gm ?_
    refine gv (qti (fun w M => lenA_rd hr167)) ?_
    refine gv (qtd (fun w M => mem_rd M hr167)) ?_
    refine gas ?_
    refine gnt (hK166 _ _ ?_)
    refine gc_seq fun K168 hK168 => ?_
    refine gc_sr fun K169 hK169 => ?_
    refine gm ?_
    refine gv (qt_geq rfl rfl rfl) ?_
    refine gnt (hK169 _ _ ?_)
    refine gc_cond rfl (fun hc9 => ?_) (fun hc9 => ?_)
    ·try simp only [sA] at hc9
     refine gc_region ?_
     refine gm ?_
     refine gm ?_
     refine gv (qt_add rfl rfl rfl (by omega)) ?_
     refine gas ?_
     refine gnt (hK168 _ _ ?_)
     refine gc_region ?_
     refine gm ?_
     refine gm ?_
     refine gop fun K171 hK171 => ?_
     refine go_slice1 rfl rfl rfl rfl underlying24 ?_
     intro B170
     refine hK171 _ _ ?_
     refine gop fun K173 hK173 => ?_
     refine go_append (n := 10) (m := 11) rfl rfl rfl underlying24 rfl rfl rfl rfl (by omega) ?_
     intro va172 vc172
     refine hK173 _ _ ?_
     refine gas ?_
     refine g_nil ?_
     refine gk_block ?_
     refine gk_then (hK165 _ _ ?_)
     refine gc_region ?_
     refine gm ?_
     refine gv (qt_add rfl rfl rfl (by omega)) ?_
     refine gas ?_
     refine g_nil ?_
     rw [smC_t (c := c) (d := d) (j := i) (l := j) (by assumption), smX_f]
     simp only [tabTo_succ, Nat.add_assoc]
     refine gk_then (gk_take 11 ?_)
     refine gk_sub ?hs_174 (hKL162 (j + 1, _, _) ?hi_174 ?hm_174)
     case hs_174 => repeat first | exact sub_nil | refine sub_cons rfl ?_
     case hi_174 => omega
     case hm_174 => omega
    try simp only [sA] at hc9
    refine gc_skip ?_
    refine gk_then (hK168 _ _ ?_)
    refine gc_region ?_
    refine gm ?_
    refine gm ?_
    refine gop fun K176 hK176 => ?_
    refine go_slice1 rfl rfl rfl rfl underlying24 ?_
    intro B175
    refine hK176 _ _ ?_
    refine gop fun K178 hK178 => ?_
    refine go_append (n := 10) (m := 11) rfl rfl rfl underlying24 rfl rfl rfl rfl (by omega) ?_
    intro va177 vc177
    refine hK178 _ _ ?_
    refine gas ?_
    refine g_nil ?_
    refine gk_block ?_
    refine gk_then (hK165 _ _ ?_)
    refine gc_region ?_
    refine gm ?_
    refine gv (qt_add rfl rfl rfl (by omega)) ?_
    refine gas ?_
    refine g_nil ?_
    rw [smC_f (c := c) (d := d) (j := i) (l := j) (by omega), smX_f]
    simp only [tabTo_succ, Nat.add_assoc]
    refine gk_then (gk_take 11 ?_)
    refine gk_sub ?hs_179 (hKL162 (j + 1, _, _) ?hi_179 ?hm_179)
    case hs_179 => repeat first | exact sub_nil | refine sub_cons rfl ?_
    case hi_179 => omega
    case hm_179 => omega
   try simp only [sA] at hc8
   refine gc_exit ?_
   refine gk_then_exit ?_
   refine gk_then_exit ?_
   refine gk_block_hit ?_
   refine gk_then (hK160 _ _ ?_)
   refine gc_region ?_
   refine gv (qtf underlying27 (z := 0) (off := 4)) ?_
   refine gv (qtl underlying25 (n := 7)) ?_
   refine gm ?_
   refine gop fun K181 hK181 => ?_
   refine go_sliceR1 (m := 10) rfl rfl rfl rfl underlying25 rfl ?_
   intro B180
   refine hK181 _ _ ?_
   refine gop fun K183 hK183 => ?_
   refine go_appendRow (n := 6) (m := 10) (m' := 9) rfl rfl rfl underlying25 rfl rfl rfl rfl rfl (by omega) ?_
   intro va182 vc182
   refine hK183 _ _ ?_
   refine gv (qtf underlying27 (z := 0) (off := 4)) ?_
   refine gop fun K184 hK184 => ?_
   refine go_storeB (n := 7) rfl rfl rfl rfl (by kernel_rfl) rfl rfl rfl (by first | decide | simp) ?_
   refine hK184 _ _ ?_
   refine g_nil ?_
   refine gk_block ?_
   refine gk_then (hK83 _ _ ?_)
   refine gc_region ?_
   refine gm ?_
   refine gv (qt_add rfl rfl rfl (by omega)) ?_
   refine gas ?_
   refine g_nil ?_
   obtain rfl : j = d.s.length := by omega
   rw [smR_def, smS_def, smT_def]
   simp only [grow_succ, growR_succ]
   refine gk_then (gk_take 8 ?_)
   refine gk_sub ?hs_185 (hKL80 (i + 1, _, _, _, _, _, _, _, _, _, _) ?hi_185 ?hm_185)
   case hs_185 => repeat first | exact sub_nil | refine sub_cons rfl ?_
   case hi_185 => omega
   case hm_185 => omega
  refine go_slice1 rfl rfl rfl rfl underlying24 ?_
  intro B186
  refine hK85 _ _ (fun w M => (ms0 3 7 8 M :)) ?_
  refine gao 1 fun K188 hK188 => ?_
  refine gov (qtl underlying24 (n := 7)) ?_
  refine hK188 _ _ (fun w M => (ms0 3 7 8 M :)) ?_
  refine gao 10 fun K190 hK190 => ?_
  refine go_append (n := 3) (m := 8) rfl rfl rfl underlying24 rfl rfl rfl rfl (by omega) ?_
  intro va189 vc189
  refine hK190 _ _ (fun w M => (ms0 3 7 8 M :)) ?_
  refine gav 11 rfl (qtf underlying27 (z := 0) (off := 1)) ?_
  refine gao 12 fun K191 hK191 => ?_
  refine go_storeB (n := 7) rfl rfl rfl rfl (by kernel_rfl) rfl rfl rfl (by first | decide | simp) ?_
  refine hK191 _ _ (fun w M => (ms0 3 7 8 M :)) ?_
  refine ga_done (by kernel_rfl) ?_
  refine gk_then (hK84 _ _ ?_)
  refine gc_seq fun K192 hK192 => ?_
  try simp only [sL]
  refine ga_start _ (fun w M => mem_erase 4 (mem_erase 7 (M))) ?_
  refine gav 0 rfl (qtf underlying27 (z := 0) (off := 2)) ?_
  refine gav 2 rfl (qtf underlying27 (z := 0) (off := 2)) ?_
  refine gav 3 rfl (qtl underlying24 (n := 1)) ?_
  refine gav 4 rfl (qt_move rfl rfl) ?_
  refine gav 5 rfl (qti (fun w M => lenA_rd e2)) ?_
  refine gav 6 rfl (qtd (fun w M => mem_rd M e2)) ?_
  refine gav 7 rfl (qt_move rfl rfl) ?_
  refine gav 8 rfl (qt_add rfl rfl rfl (by omega)) ?_
  refine gat 1 9 (fun K193 hK193 => ?_) (fun K193 hK193 => ?_)
  ·refine gov (qtl underlying24 (n := 7)) ?_
   refine hK193 _ _ (fun w M => (ms0 4 7 9 M :)) ?_
   refine gao 9 fun K196 hK196 => ?_
   refine go_slice1 rfl rfl rfl rfl underlying24 ?_
   intro B195
   refine hK196 _ _ (fun w M => (ms0 4 7 9 M :)) ?_
   refine gao 10 fun K198 hK198 => ?_
   refine go_append (n := 4) (m := 9) rfl rfl rfl underlying24 rfl rfl rfl rfl (by omega) ?_
   intro va197 vc197
   refine hK198 _ _ (fun w M => (ms0 4 7 9 M :)) ?_
   refine gav 11 rfl (qtf underlying27 (z := 0) (off := 2)) ?_
   refine gao 12 fun K199 hK199 => ?_
   refine go_storeB (n := 7) rfl rfl rfl rfl (by kernel_rfl) rfl rfl rfl (by first | decide | simp) ?_
   refine hK199 _ _ (fun w M => (ms0 4 7 9 M :)) ?_
   refine ga_done (by kernel_rfl) ?_
   refine gk_then (hK192 _ _ ?_)
   refine gc_sr fun K200 hK200 => ?_
   refine gop fun K202 hK202 => ?_
   refine go_slice0 rfl rfl rfl underlying24 ?_
   intro B201
   refine hK202 _ _ ?_
   refine gas ?_
   refine gnt (hK200 _ _ ?_)
   refine gc_seq fun K203 hK203 => ?_
   refine gc_sr fun K204 hK204 => ?_
   refine gas ?_
   refine gnt (hK204 _ _ ?_)
   refine gc_block ?_
   try simp only [sL]
   refine gc_loopT ([(0, _), (1, _), (2, _), (3, _), (4, _), (5, _), (6, _), (7, _), (8, _), (9, _), (11, _), (31, _), (50, _), (75, _)] : Env) (fun s : Nat × (Option Addr) × Nat => (fun (l : Nat) (z : Option Addr) (p : Nat) => (([(12, .slice z (tabTo (smX c d i) l).length p), (13, .int .i64 (l : Int))] : Env), ([(10, own1I (.slice z (tabTo (smX c d i) l).length p) (tabTo (smX c d i) l))] : List (Nat × Itm)), l ≤ c.s.length, c.s.length - l)) s.1 s.2.1 s.2.2) (0, _, _) (by repeat first | exact sub_nil | refine sub_cons rfl ?_) rfl (Nat.zero_le _) ?_
   rintro ⟨l, z, p⟩ hinv KL205 hKL205
   simp only [sU, sL] at hinv hKL205 ⊢
   have hl := hinv
   have hl9 := tabTo_len (smX c d i) l
   refine gc_seq fun K206 hK206 => ?_
   refine gc_sr fun K207 hK207 => ?_
   refine gm ?_
   refine gm ?_
   refine gv (qt_lss rfl rfl rfl) ?_
   refine gnt (hK207 _ _ ?_)
   refine gc_cond rfl (fun hc10 => ?_) (fun hc10 => ?_)
   ·try simp only [sA] at hc10
    refine gc_skip ?_
    refine gk_then (hK206 _ _ ?_)
    refine gc_seq fun K208 hK208 => ?_
    refine gc_block ?_
    refine gc_region ?_
    refine gm ?_
    refine gop fun K210 hK210 => ?_
    refine go_slice1 rfl rfl rfl rfl underlying24 ?_
    intro B209
    refine hK210 _ _ ?_
    refine gop fun K212 hK212 => ?_
    refine go_append (n := 10) (m := 11) rfl rfl rfl underlying24 rfl rfl rfl rfl (by omega) ?_
    intro va211 vc211
    refine hK212 _ _ ?_
    refine gas ?_
    refine g_nil ?_
    refine gk_block ?_
    refine gk_then (hK208 _ _ ?_)
    refine gc_region ?_
    refine gm ?_
    refine gv (qt_add rfl rfl rfl (by omega)) ?_
    refine gas ?_
    refine g_nil ?_
    rw [smX_t (c := c) (d := d) (j := i) (l := l) (by omega)]
    simp only [tabTo_succ]
    refine gk_then (gk_take 11 ?_)
    refine gk_sub ?hs_213 (hKL205 (l + 1, _, _) ?hi_213 ?hm_213)
    case hs_213 => repeat first | exact sub_nil | refine sub_cons rfl ?_
    case hi_213 => omega
    case hm_213 => omega
   try simp only [sA] at hc10
   refine gc_exit ?_
   refine gk_then_exit ?_
   refine gk_then_exit ?_
   refine gk_block_hit ?_
   refine gk_then (hK203 _ _ ?_)
   refine gc_seq fun K214 hK214 => ?_
   refine gc_seq fun K215 hK215 => ?_
   obtain rfl : l = c.s.length := by omega
   refine gc_region ?_
   refine gas ?_
   refine gnt (hK215 _ _ ?_)
   refine gc_block ?_
   try simp only [sL]
   refine gc_loopT ([(0, _), (1, _), (2, _), (3, _), (4, _), (5, _), (6, _), (7, _), (8, _), (9, _), (11, _), (13, _), (31, _), (50, _), (75, _), (105, _)] : Env) (fun s : Nat × (Option Addr) × Nat => (fun (j : Nat) (z : Option Addr) (p : Nat) => (([(12, .slice z (tabTo (smX c d i) (c.s.length + j)).length p), (14, .int .i64 (j : Int))] : Env), ([(10, own1I (.slice z (tabTo (smX c d i) (c.s.length + j)).length p) (tabTo (smX c d i) (c.s.length + j)))] : List (Nat × Itm)), j ≤ d.s.length, d.s.length - j)) s.1 s.2.1 s.2.2) (0, _, _) (by repeat first | exact sub_nil | refine sub_cons rfl ?_) rfl (Nat.zero_le _) ?_
   rintro ⟨j, z, p⟩ hinv KL216 hKL216
   simp only [sU, sL] at hinv hKL216 ⊢
   have hj := hinv
   have hl9 := tabTo_len (smX c d i) (c.s.length + j)
   refine gc_seq fun K217 hK217 => ?_
   refine gc_sr fun K218 hK218 => ?_
   refine gm ?_
   refine gv (qtf underlying27 (z := 0) (off := 1)) ?_
   refine gv (qtl underlying24 (n := 1)) ?_
   refine gv (qln (fun w M => lenV_rd e1)) ?_
   refine gv (qt_lss rfl rfl rfl) ?_
   refine gnt (hK218 _ _ ?_)
   refine gc_cond rfl (fun hc11 => ?_) (fun hc11 => ?_)
   ·try simp only [sA] at hc11
    refine gc_skip ?_
    refine gk_then (hK217 _ _ ?_)
    refine gc_seq fun K219 hK219 => ?_
    refine gc_block ?_
    refine gc_seq fun K220 hK220 => ?_
    have r1 := arrP gS (f := (i : Int)) (by omega) (by omega)
    have r2 := r1.fm; have r3 := r1.row
    have t1 := th_lt2 gS (f := i) (g := j) (by omega) (by omega)
    refine gc_region ?_
    refine gv (qtf underlying27 (z := 0) (off := 4)) ?_
    refine gv (qtl underlying25 (n := 1)) ?_
    refine gm ?_
    refine gv (qti2 (fun w M => lenA_rd2 e4)) ?_
    refine g_load2 (.free rfl) rfl rfl rfl rfl underlying24 rfl e4 (by omega) (by omega) ?_
    intro ra221 rc221 hr221
    refine gm ?_
    refine gv (qti (fun w M => lenA_rd hr221)) ?_
    refine gv (qtd (fun w M => mem_rd M hr221)) ?_
    refine gas ?_
    refine gnt (hK220 _ _ ?_)
    refine gc_seq fun K222 hK222 => ?_
    refine gc_sr fun K223 hK223 => ?_
    refine gm ?_
    refine gv (qt_geq rfl rfl rfl) ?_
    refine gnt (hK223 _ _ ?_)
    refine gc_cond rfl (fun hc12 => ?_) (fun hc12 => ?_)
    ·try simp only [sA] at hc12
     refine gc_region ?_
     refine gm ?_
     refine gm ?_
     refine gv (qt_add rfl rfl rfl (by omega)) ?_
     refine gas ?_
     refine gnt (hK222 _ _ ?_)
     refine gc_region ?_
     refine gm ?_
     refine gm ?_
     refine gop fun K225 hK225 => ?_
     refine go_slice1 rfl rfl rfl rfl underlying24 ?_
     intro B224
     refine hK225 _ _ ?_
     refine gop fun K227 hK227 => ?_
     refine go_append (n := 10) (m := 11) rfl rfl rfl underlying24 rfl rfl rfl rfl (by omega) ?_
     intro va226 vc226
     refine hK227 _ _ ?_
     refine gas ?_
     refine g_nil ?_
     refine gk_block ?_
     refine gk_then (hK219 _ _ ?_)
     refine gc_region ?_
     refine gm ?_
     refine gv (qt_add rfl rfl rfl (by omega)) ?_
     refine gas ?_
     refine g_nil ?_
     rw [smC_t (c := c) (d := d) (j := i) (l := j) (by assumption), smX_f]
     simp only [tabTo_succ, Nat.add_assoc]
     refine gk_then (gk_take 11 ?_)
     refine gk_sub ?hs_228 (hKL216 (j + 1, _, _) ?hi_228 ?hm_228)
     case hs_228 => repeat first | exact sub_nil | refine sub_cons rfl ?_
     case hi_228 => omega
     case hm_228 => omega
    try simp only [sA] at hc12
    refine gc_skip ?_
    refine gk_then (hK222 _ _ ?_)
    refine gc_region ?_
    refine gm ?_
    refine gm ?_
    refine gop fun K230 hK230 => ?_
    refine go_slice1 rfl rfl rfl rfl underlying24 ?_
    intro B229
    refine hK230 _ _ ?_
    refine gop fun K232 hK232 => ?_
    refine go_append (n := 10) (m := 11) rfl rfl rfl underlying24 rfl rfl rfl rfl (by omega) ?_
    intro va231 vc231
    refine hK232 _ _ ?_
    refine gas ?_
    refine g_nil ?_
    refine gk_block ?_
    refine gk_then (hK219 _ _ ?_)
    refine gc_region ?_
    refine gm ?_
    refine gv (qt_add rfl rfl rfl (by omega)) ?_
    refine gas ?_
    refine g_nil ?_
    rw [smC_f (c := c) (d := d) (j := i) (l := j) (by omega), smX_f]
    simp only [tabTo_succ, Nat.add_assoc]
    refine gk_then (gk_take 11 ?_)
    refine gk_sub ?hs_233 (hKL216 (j + 1, _, _) ?hi_233 ?hm_233)
    case hs_233 => repeat first | exact sub_nil | refine sub_cons rfl ?_
    case hi_233 => omega
    case hm_233 => omega
   try simp only [sA] at hc11
   refine gc_exit ?_
   refine gk_then_exit ?_
   refine gk_then_exit ?_
   refine gk_block_hit ?_
   refine gk_then (hK214 _ _ ?_)
   refine gc_region ?_
   refine gv (qtf underlying27 (z := 0) (off := 4)) ?_
   refine gv (qtl underlying25 (n := 7)) ?_
   refine gm ?_
   refine gop fun K235 hK235 => ?_
   refine go_sliceR1 (m := 10) rfl rfl rfl rfl underlying25 rfl ?_
   intro B234
   refine hK235 _ _ ?_
   refine gop fun K237 hK237 => ?_
   refine go_appendRow (n := 6) (m := 10) (m' := 9) rfl rfl rfl underlying25 rfl rfl rfl rfl rfl (by omega) ?_
   intro va236 vc236
   refine hK237 _ _ ?_
   refine gv (qtf underlying27 (z := 0) (off := 4)) ?_
   refine gop fun K238 hK238 => ?_
   refine go_storeB (n := 7) rfl rfl rfl rfl (by kernel_rfl) rfl rfl rfl (by first | decide | simp) ?_
   refine hK238 _ _ ?_
   refine g_nil ?_
   refine gk_block ?_
   refine gk_then (hK83 _ _ ?_)
   refine gc_region ?_
   refine gm ?_
   refine gv (qt_add rfl rfl rfl (by omega)) ?_
   refine gas ?_
   refine g_nil ?_
   obtain rfl : j = d.s.length := by omega
   rw [smR_def, smS_def, smT_def]
   simp only [grow_succ, growR_succ]
   refine gk_then (gk_take 8 ?_)
   refine gk_sub ?hs_239 (hKL80 (i + 1, _, _, _, _, _, _, _, _, _, _) ?hi_239 ?hm_239)
   case hs_239 => repeat first | exact sub_nil | refine sub_cons rfl ?_
   case hi_239 => omega
   case hm_239 => omega
  refine go_slice1 rfl rfl rfl rfl underlying24 ?_
  intro B240
  refine hK193 _ _ (fun w M => (ms0 4 7 9 M :)) ?_
  refine gao 1 fun K242 hK242 => ?_
  refine gov (qtl underlying24 (n := 7)) ?_
  refine hK242 _ _ (fun w M => (ms0 4 7 9 M :)) ?_
  refine gao 10 fun K244 hK244 => ?_
  refine go_append (n := 4) (m := 9) rfl rfl rfl underlying24 rfl rfl rfl rfl (by omega) ?_
  intro va243 vc243
  refine hK244 _ _ (fun w M => (ms0 4 7 9 M :)) ?_
  refine gav 11 rfl (qtf underlying27 (z := 0) (off := 2)) ?_
  refine gao 12 fun K245 hK245 => ?_
  refine go_storeB (n := 7) rfl rfl rfl rfl (by kernel_rfl) rfl rfl rfl (by first | decide | simp) ?_
  refine hK245 _ _ (fun w M => (ms0 4 7 9 M :)) ?_
  refine ga_done (by kernel_rfl) ?_
  refine gk_then (hK192 _ _ ?_)
  refine gc_sr fun K246 hK246 => ?_
  refine gop fun K248 hK248 => ?_
  refine go_slice0 rfl rfl rfl underlying24 ?_
  intro B247
  refine hK248 _ _ ?_
  refine gas ?_
  refine gnt (hK246 _ _ ?_)
  refine gc_seq fun K249 hK249 => ?_
  refine gc_sr fun K250 hK250 => ?_
  refine gas ?_
  refine gnt (hK250 _ _ ?_)
  refine gc_block ?_
  try simp only [sL]
  refine gc_loopT ([(0, _), (1, _), (2, _), (3, _), (4, _), (5, _), (6, _), (7, _), (8, _), (9, _), (11, _), (31, _), (50, _), (75, _)] : Env) (fun s : Nat × (Option Addr) × Nat => (fun (l : Nat) (z : Option Addr) (p : Nat) => (([(12, .slice z (tabTo (smX c d i) l).length p), (13, .int .i64 (l : Int))] : Env), ([(10, own1I (.slice z (tabTo (smX c d i) l).length p) (tabTo (smX c d i) l))] : List (Nat × Itm)), l ≤ c.s.length, c.s.length - l)) s.1 s.2.1 s.2.2) (0, _, _) (by repeat first | exact sub_nil | refine sub_cons rfl ?_) rfl (Nat.zero_le _) ?_
  rintro ⟨l, z, p⟩ hinv KL251 hKL251
  simp only [sU, sL] at hinv hKL251 ⊢
  have hl := hinv
  have hl9 := tabTo_len (smX c d i) l
  refine gc_seq fun K252 hK252 => ?_
  refine gc_sr fun K253 hK253 => ?_
  refine gm ?_
  refine gm ?_
  refine gv (qt_lss rfl rfl rfl) ?_
  refine gnt (hK253 _ _ ?_)
  refine gc_cond rfl (fun hc13 => ?_) (fun hc13 => ?_)
  ·try simp only [sA] at hc13
   refine gc_skip ?_
   refine gk_then (hK252 _ _ ?_)
   refine gc_seq fun K254 hK254 => ?_
   refine gc_block ?_
   refine gc_region ?_
   refine gm ?_
   refine gop fun K256 hK256 => ?_
   refine go_slice1 rfl rfl rfl rfl underlying24 ?_
   intro B255
   refine hK256 _ _ ?_
   refine gop fun K258 hK258 => ?_
   refine go_append (n := 10) (m := 11) rfl rfl rfl underlying24 rfl rfl rfl rfl (by omega) ?_
   intro va257 vc257
   refine hK258 _ _ ?_
   refine gas ?_
   refine g_nil ?_
   refine gk_block ?_
   refine gk_then (hK254 _ _ ?_)
   refine gc_region ?_
   refine gm ?_
   refine gv (qt_add rfl rfl rfl (by omega)) ?_
   refine gas ?_
   refine g_nil ?_
   rw [smX_t (c := c) (d := d) (j := i) (l := l) (by omega)]
   simp only [tabTo_succ]
   refine gk_then (gk_take 11 ?_)
   refine gk_sub ?hs_259 (hKL251 (l + 1, _, _) ?hi_259 ?hm_259)
   case hs_259 => repeat first | exact sub_nil | refine sub_cons rfl ?_
   case hi_259 => omega
   case hm_259 => omega
  try simp only [sA] at hc13
  refine gc_exit ?_
  refine gk_then_exit ?_
  refine gk_then_exit ?_
  refine gk_block_hit ?_
  refine gk_then (hK249 _ _ ?_)
  refine gc_seq fun K260 hK260 => ?_
  refine gc_seq fun K261 hK261 => ?_
  obtain rfl : l = c.s.length := by omega
  refine gc_region ?_
  refine gas ?_
  refine gnt (hK261 _ _ ?_)
  refine gc_block ?_
  try simp only [sL]
  refine gc_loopT ([(0, _), (1, _), (2, _), (3, _), (4, _), (5, _), (6, _), (7, _), (8, _), (9, _), (11, _), (13, _), (31, _), (50, _), (75, _), (105, _)] : Env) (fun s : Nat × (Option Addr) × Nat => (fun (j : Nat) (z : Option Addr) (p : Nat) => (([(12, .slice z (tabTo (smX c d i) (c.s.length + j)).length p), (14, .int .i64 (j : Int))] : Env), ([(10, own1I (.slice z (tabTo (smX c d i) (c.s.length + j)).length p) (tabTo (smX c d i) (c.s.length + j)))] : List (Nat × Itm)), j ≤ d.s.length, d.s.length - j)) s.1 s.2.1 s.2.2) (0, _, _) (by repeat first | exact sub_nil | refine sub_cons rfl ?_) rfl (Nat.zero_le _) ?_
  rintro ⟨j, z, p⟩ hinv KL262 hKL262
  simp only [sU, sL] at hinv hKL262 ⊢
  have hj := hinv
  have hl9 := tabTo_len (smX c d i) (c.s.length + j)
  refine gc_seq fun K263 hK263 => ?_
  refine gc_sr fun K264 hK264 => ?_
  refine gm ?_
  refine gv (qtf underlying27 (z := 0) (off := 1)) ?_
  refine gv (qtl underlying24 (n := 1)) ?_
  refine gv (qln (fun w M => lenV_rd e1)) ?_
  refine gv (qt_lss rfl rfl rfl) ?_
  refine gnt (hK264 _ _ ?_)
  refine gc_cond rfl (fun hc14 => ?_) (fun hc14 => ?_)
  ·try simp only [sA] at hc14
   refine gc_skip ?_
   refine gk_then (hK263 _ _ ?_)
   refine gc_seq fun K265 hK265 => ?_
   refine gc_block ?_
   refine gc_seq fun K266 hK266 => ?_
   have r1 := arrP gS (f := (i : Int)) (by omega) (by omega)
   have r2 := r1.fm; have r3 := r1.row
   have t1 := th_lt2 gS (f := i) (g := j) (by omega) (by omega)
   refine gc_region ?_
   refine gv (qtf underlying27 (z := 0) (off := 4)) ?_
   refine gv (qtl underlying25 (n := 1)) ?_
   refine gm ?_
   refine gv (qti2 (fun w M => lenA_rd2 e4)) ?_
   refine g_load2 (.free rfl) rfl rfl rfl rfl underlying24 rfl e4 (by omega) (by omega) ?_
   intro ra267 rc267 hr267
   refine gm ?_
   refine gv (qti (fun w M => lenA_rd hr267)) ?_
   refine gv (qtd (fun w M => mem_rd M hr267)) ?_
   refine gas ?_
   refine gnt (hK266 _ _ ?_)
   refine gc_seq fun K268 hK268 => ?_
   refine gc_sr fun K269 hK269 => ?_
   refine gm ?_
   refine gv (qt_geq rfl rfl rfl) ?_
   refine gnt (hK269 _ _ ?_)
   refine gc_cond rfl (fun hc15 => ?_) (fun hc15 => ?_)
   ·try simp only [sA] at hc15
    refine gc_region ?_
    refine gm ?_
    refine gm ?_
    refine gv (qt_add rfl rfl rfl (by omega)) ?_
    refine gas ?_
    refine gnt (hK268 _ _ ?_)
    refine gc_region ?_
    refine gm ?_
    refine gm ?_
    refine gop fun K271 hK271 => ?_
    refine go_slice1 rfl rfl rfl rfl underlying24 ?_
    intro B270
    refine hK271 _ _ ?_
    refine gop fun K273 hK273 => ?_
    refine go_append (n := 10) (m := 11) rfl rfl rfl underlying24 rfl rfl rfl rfl (by omega) ?_
    intro va272 vc272
    refine hK273 _ _ ?_
    refine gas ?_
    refine g_nil ?_
    refine gk_block ?_
    refine gk_then (hK265 _ _ ?_)
    refine gc_region ?_
    refine gm ?_
    refine gv (qt_add rfl rfl rfl (by omega)) ?_
    refine gas ?_
    refine g_nil ?_
    rw [smC_t (c := c) (d := d) (j := i) (l := j) (by assumption), smX_f]
    simp only [tabTo_succ, Nat.add_assoc]
    refine gk_then (gk_take 11 ?_)
    refine gk_sub ?hs_274 (hKL262 (j + 1, _, _) ?hi_274 ?hm_274)
    case hs_274 => repeat first | exact sub_nil | refine sub_cons rfl ?_
    case hi_274 => omega
    case hm_274 => omega
   try simp only [sA] at hc15
   refine gc_skip ?_
   refine gk_then (hK268 _ _ ?_)
   refine gc_region ?_
   refine gm ?_
   refine gm ?_
   refine gop fun K276 hK276 => ?_
   refine go_slice1 rfl rfl rfl rfl underlying24 ?_
   intro B275
   refine hK276 _ _ ?_
   refine gop fun K278 hK278 => ?_
   refine go_append (n := 10) (m := 11) rfl rfl rfl underlying24 rfl rfl rfl rfl (by omega) ?_
   intro va277 vc277
   refine hK278 _ _ ?_
   refine gas ?_
   refine g_nil ?_
   refine gk_block ?_
   refine gk_then (hK265 _ _ ?_)
   refine gc_region ?_
   refine gm ?_
   refine gv (qt_add rfl rfl rfl (by omega)) ?_
   refine gas ?_
   refine g_nil ?_
   rw [smC_f (c := c) (d := d) (j := i) (l := j) (by omega), smX_f]
   simp only [tabTo_succ, Nat.add_assoc]
   refine gk_then (gk_take 11 ?_)
   refine gk_sub ?hs_279 (hKL262 (j + 1, _, _) ?hi_279 ?hm_279)
   case hs_279 => repeat first | exact sub_nil | refine sub_cons rfl ?_
   case hi_279 => omega
   case hm_279 => omega
  try simp only [sA] at hc14
  refine gc_exit ?_
  refine gk_then_exit ?_
  refine gk_then_exit ?_
  refine gk_block_hit ?_
  refine gk_then (hK260 _ _ ?_)
  refine gc_region ?_
  refine gv (qtf underlying27 (z := 0) (off := 4)) ?_
  refine gv (qtl underlying25 (n := 7)) ?_
  refine gm ?_
  refine gop fun K281 hK281 => ?_
  refine go_sliceR1 (m := 10) rfl rfl rfl rfl underlying25 rfl ?_
  intro B280
  refine hK281 _ _ ?_
  refine gop fun K283 hK283 => ?_
  refine go_appendRow (n := 6) (m := 10) (m' := 9) rfl rfl rfl underlying25 rfl rfl rfl rfl rfl (by omega) ?_
  intro va282 vc282
  refine hK283 _ _ ?_
  refine gv (qtf underlying27 (z := 0) (off := 4)) ?_
  refine gop fun K284 hK284 => ?_
  refine go_storeB (n := 7) rfl rfl rfl rfl (by kernel_rfl) rfl rfl rfl (by first | decide | simp) ?_
  refine hK284 _ _ ?_
  refine g_nil ?_
  refine gk_block ?_
  refine gk_then (hK83 _ _ ?_)
  refine gc_region ?_
  refine gm ?_
  refine gv (qt_add rfl rfl rfl (by omega)) ?_
  refine gas ?_
  refine g_nil ?_
  obtain rfl : j = d.s.length := by omega
  rw [smR_def, smS_def, smT_def]
  simp only [grow_succ, growR_succ]
  refine gk_then (gk_take 8 ?_)
  refine gk_sub ?hs_285 (hKL80 (i + 1, _, _, _, _, _, _, _, _, _, _) ?hi_285 ?hm_285)
  case hs_285 => repeat first | exact sub_nil | refine sub_cons rfl ?_
  case hi_285 => omega
  case hm_285 => omega
 try simp only [sA] at hc3
 refine gc_exit ?_
 refine gk_then_exit ?_
 refine gk_then_exit ?_
 refine gk_block_hit ?_
 refine gk_then (hK78 _ _ ?_)
 refine gc_sr fun K286 hK286 => ?_
 refine gv (qts underlying27 (n := 7)) ?_
 refine gop fun K287 hK287 => ?_
 refine gss 2 ?_
 refine hK287 _ _ ?_
 refine gnt (hK286 _ _ ?_)
 refine gc_ret ?_
 refine ret_S (n := 2) rfl rfl underlying27 rfl (by kernel_rfl) rfl (fun w M => ?_)
 obtain rfl : i = d.s.length := by omega
 exact ⟨_, rfl, ownC_star (c := sumM c d) (mem_pick (n := 6) (mem_pick (n := 6) (mem_pick (n := 6) (mem_pick (n := 6) (M) rfl) rfl) rfl) rfl).2, M.1⟩
end Go.Proofs.Ytbiplocgenppoaa
