import Derived.Test.YtbiplocgenppoaaS4
import Derived.Test.YtbiplocgenppoaaS23
import Derived.Test.YtbiplocgenppoaaS11
set_option maxHeartbeats 1000000
set_option maxRecDepth 100000
set_option linter.unusedSimpArgs false
set_option linter.unusedVariables false
set_option linter.unusedSectionVars false
namespace Go.Proofs.Ytbiplocgenppoaa
open _root_.Go.Proofs.Try
open Go.RowKit
structure SumP (c d : Cat) : Prop where
 sl : (sumM c d).s.length = c.s.length + d.s.length
 tl : (sumM c d).t.length = c.s.length + d.s.length
 el : ((sumM c d).e.length : Int) = c.ob + d.ob
 ml : (sumM c d).m.length = c.s.length + d.s.length
 rl : ∀ i : Nat, i < c.s.length + d.s.length → (row2 (sumM c d).m (i : Int)).length = c.s.length + d.s.length
 s : ∀ i : Nat, i < c.s.length + d.s.length → at0 (sumM c d).s (i : Int) = (entS c d i).1
 t : ∀ i : Nat, i < c.s.length + d.s.length → at0 (sumM c d).t (i : Int) = (entS c d i).2.1
 id : ∀ x : Nat, (x : Int) < c.ob + d.ob → ∃ k : Nat, k < c.s.length + d.s.length ∧ at0 (sumM c d).e (x : Int) = k ∧ (entS c d k).1 = x ∧ (entS c d k).2.1 = x
 co : ∀ i j : Nat, i < c.s.length + d.s.length → j < c.s.length + d.s.length → (entS c d i).2.1 = (entS c d j).1 → ∃ k : Nat, k < c.s.length + d.s.length ∧ at0 (row2 (sumM c d).m (i : Int)) (j : Int) = k ∧ (entS c d k).1 = (entS c d i).1 ∧ (entS c d k).2.1 = (entS c d j).2.1
 no : ∀ i j : Nat, i < c.s.length + d.s.length → j < c.s.length + d.s.length → ¬ (entS c d i).2.1 = (entS c d j).1 → at0 (row2 (sumM c d).m (i : Int)) (j : Int) = -1
theorem sumP {c d : Cat} (hS : ShapeP c) (gS : ShapeP d) : SumP c d := by
 have hb := sum_build hS gS
 have htl := hS.tl; have hel := hS.el; have hob0 := hS.ob0; have hml := hS.ml
 have gtl := gS.tl; have gel := gS.el; have gob0 := gS.ob0; have gml := gS.ml
 have hrl := rowsF_len c.m d.s.length c.s.length
 have hel2 := entsS_len c d (c.s.length + d.s.length)
 have hinj : ∀ i j, i < c.s.length + d.s.length → j < c.s.length + d.s.length → entS c d i = entS c d j → i = j := fun i j hi hj h => entS_inj i j hi hj h
 have rowE2 : ∀ i : Nat, i < c.s.length + d.s.length → row2 (sumM c d).m (i : Int) = rowE (entsTo (entS c d) (c.s.length + d.s.length)) (thS c d) (entS c d i) := fun i hi => by
  rw [← hb]
  show row2 (rowsTo _ _) (i : Int) = _
  rw [rowsTo_at _ (by omega), entsTo_at _ hi]
 have cell2 : ∀ i j : Nat, i < c.s.length + d.s.length → j < c.s.length + d.s.length → at0 (row2 (sumM c d).m (i : Int)) (j : Int) = cellE (entsTo (entS c d) (c.s.length + d.s.length)) (thS c d) (entS c d i) (entS c d j) := fun i j hi hj => by
  rw [rowE2 i hi]
  unfold rowE
  rw [hel2, tabTo_at _ hj, entsTo_at _ hj]
 refine ⟨grow_len _ _ _, (grow_len _ _ _).trans (by omega), ?_, (growR_len _ _ _).trans (by omega), fun i hi => ?_, fun i hi => ?_, fun i hi => ?_, fun x hx => ?_, fun i j hi hj he => ?_, fun i j hi hj he => ?_⟩
 ·rw [show (sumM c d).e.length = _ from grow_len _ _ _]; omega
 ·rw [rowE2 i hi]; exact (tabTo_len _ _).trans hel2
 ·rw [← hb]
  show at0 (tabTo _ _) (i : Int) = _
  rw [tabTo_at _ (by omega), entsTo_at _ hi]
 ·rw [← hb]
  show at0 (tabTo _ _) (i : Int) = _
  rw [tabTo_at _ (by omega), entsTo_at _ hi]
 ·have he : at0 (sumM c d).e (x : Int) = posE (entsTo (entS c d) (c.s.length + d.s.length)) ((x : Int), (x : Int), uS c d x) := by
   rw [← hb]
   show at0 (tabTo _ _) (x : Int) = _
   rw [tabTo_at _ (by omega)]
  rw [he]
  by_cases h : (x : Int) < c.ob
  ·have i1 := hS.idn (x := (x : Int)) (by omega) h
   obtain ⟨q, hq⟩ := Int.eq_ofNat_of_zero_le i1.1
   rw [hq] at i1
   have hent : entS c d q = ((x : Int), (x : Int), uS c d x) := by rw [entS_l (by omega), uS_l h, i1.2.2.1, i1.2.2.2, hq]
   exact ⟨q, by omega, posE_to hinj (by omega) hent, by rw [hent], by rw [hent]⟩
  have i1 := gS.idn (x := (x : Int) - c.ob) (by omega) (by omega)
  obtain ⟨q, hq⟩ := Int.eq_ofNat_of_zero_le i1.1
  rw [hq] at i1
  have hent : entS c d (c.s.length + q) = ((x : Int), (x : Int), uS c d x) := by rw [entS_r, uS_r h, i1.2.2.1, i1.2.2.2, hq]; simp; omega
  exact ⟨c.s.length + q, by omega, posE_to hinj (by omega) hent, by rw [hent], by rw [hent]⟩
 ·rw [cell2 i j hi hj]
  unfold cellE
  rw [if_pos he]
  have key : ∃ k : Nat, k < c.s.length + d.s.length ∧ entS c d k = ((entS c d i).1, (entS c d j).2.1, thS c d (entS c d i).2.2 (entS c d j).2.2) := by
   rcases entS_cases hi with ⟨hi', e1⟩ | ⟨i', hi', rfl, e1⟩ <;> rcases entS_cases hj with ⟨hj', e2⟩ | ⟨j', hj', rfl, e2⟩ <;> rw [e1, e2] at he ⊢
   ·have T := th_ends hS (f := (i : Int)) (g := (j : Int)) (by omega) (by omega) (by omega) (by omega) he
    obtain ⟨q, hq⟩ := Int.eq_ofNat_of_zero_le T.1.1
    have T2 := T.2; have hlt := T.1.2
    rw [hq] at T2 hlt
    refine ⟨q, by omega, ?_⟩
    rw [entS_l (by omega), T2.1, T2.2, ← hq]; rfl
   ·have s1 := at_lt2 hS.ta (k := i) (by omega); have s2 := at_lt2 gS.sa hj'
    exfalso; have he : at0 c.t (i : Int) = c.ob + at0 d.s (j' : Int) := he; omega
   ·have s1 := at_lt2 gS.ta (k := i') (by omega); have s2 := at_lt2 hS.sa hj'
    exfalso; have he : c.ob + at0 d.t (i' : Int) = at0 c.s (j : Int) := he; omega
   have he : c.ob + at0 d.t (i' : Int) = c.ob + at0 d.s (j' : Int) := he
   have T := th_ends gS (f := (i' : Int)) (g := (j' : Int)) (by omega) (by omega) (by omega) (by omega) (by omega)
   obtain ⟨q, hq⟩ := Int.eq_ofNat_of_zero_le T.1.1
   have T2 := T.2; have hlt := T.1.2
   rw [hq] at T2 hlt
   refine ⟨c.s.length + q, by omega, ?_⟩
   rw [entS_r, T2.1, T2.2]
   show _ = (c.ob + at0 d.s (i' : Int), c.ob + at0 d.t (j' : Int), ((1 : Int), if (1 : Int) = 0 then _ else d.th (i' : Int) (j' : Int)))
   rw [if_neg (by decide), hq]
  obtain ⟨k, hk, hent⟩ := key
  exact ⟨k, hk, posE_to hinj hk hent, by rw [hent], by rw [hent]⟩
 rw [cell2 i j hi hj]
 unfold cellE
 rw [if_neg he]
theorem entS_rng {c d : Cat} (hS : ShapeP c) (gS : ShapeP d) {i : Nat} (hi : i < c.s.length + d.s.length) : (0 ≤ (entS c d i).1 ∧ (entS c d i).1 < c.ob + d.ob) ∧ (0 ≤ (entS c d i).2.1 ∧ (entS c d i).2.1 < c.ob + d.ob) ∧ ((entS c d i).1 < c.ob ↔ (entS c d i).2.1 < c.ob) := by
 have htl := hS.tl; have hob0 := hS.ob0; have gtl := gS.tl; have gob0 := gS.ob0
 rcases entS_cases hi with ⟨hi', e1⟩ | ⟨i', hi', rfl, e1⟩ <;> rw [e1]
 ·have s1 := at_lt2 hS.sa hi'; have s2 := at_lt2 hS.ta (k := i) (by omega)
  show (0 ≤ at0 c.s (i : Int) ∧ at0 c.s (i : Int) < c.ob + d.ob) ∧ (0 ≤ at0 c.t (i : Int) ∧ at0 c.t (i : Int) < c.ob + d.ob) ∧ (at0 c.s (i : Int) < c.ob ↔ at0 c.t (i : Int) < c.ob)
  omega
 have s1 := at_lt2 gS.sa hi'; have s2 := at_lt2 gS.ta (k := i') (by omega)
 show (0 ≤ c.ob + at0 d.s (i' : Int) ∧ c.ob + at0 d.s (i' : Int) < c.ob + d.ob) ∧ (0 ≤ c.ob + at0 d.t (i' : Int) ∧ c.ob + at0 d.t (i' : Int) < c.ob + d.ob) ∧ (c.ob + at0 d.s (i' : Int) < c.ob ↔ c.ob + at0 d.t (i' : Int) < c.ob)
 omega
def jnA (d : Cat) (k : Nat) : Int := ((k / d.ob.toNat : Nat) : Int)
def jnB (c d : Cat) (k : Nat) : Int := c.ob + ((k % d.ob.toNat : Nat) : Int)
def jS (c d : Cat) (k : Nat) : List Int := grow (sumM c d).s (jnA d) k
def jT (c d : Cat) (k : Nat) : List Int := grow (sumM c d).t (jnB c d) k
def jW (c d : Cat) : Nat := d.ob.toNat * c.ob.toNat
def jN (c d : Cat) : Nat := (sumM c d).s.length + jW c d
theorem jS_step {c d : Cat} {x y : Nat} (h : y < d.ob.toNat) : jS c d (d.ob.toNat * x + y) ++ [(x : Int)] = jS c d (d.ob.toNat * x + (y + 1)) := by
 have e : (x : Int) = jnA d (d.ob.toNat * x + y) := by unfold jnA; rw [grid_div h]
 rw [e]; rfl
theorem jT_step {c d : Cat} {x y : Nat} (h : y < d.ob.toNat) : jT c d (d.ob.toNat * x + y) ++ [c.ob + (y : Int)] = jT c d (d.ob.toNat * x + (y + 1)) := by
 have e : c.ob + (y : Int) = jnB c d (d.ob.toNat * x + y) := by unfold jnB; rw [grid_mod h]
 rw [e]; rfl
theorem jS_len (c d : Cat) (k : Nat) : (jS c d k).length = (sumM c d).s.length + k := grow_len _ _ _
theorem jT_len (c d : Cat) (k : Nat) : (jT c d k).length = (sumM c d).t.length + k := grow_len _ _ _
open Classical in
noncomputable def jM (c d : Cat) (f g : Nat) : Int := if at0 (jT c d (jW c d)) (f : Int) = at0 (jS c d (jW c d)) (g : Int) then (if f < (sumM c d).s.length ∧ g < (sumM c d).s.length then at0 (row2 (sumM c d).m (f : Int)) (g : Int) else ((sumM c d).s.length : Int) + at0 (jS c d (jW c d)) (f : Int) * d.ob + at0 (jT c d (jW c d)) (g : Int) - c.ob) else -1
theorem jM_n {c d : Cat} {f g : Nat} (h : ¬ at0 (jT c d (jW c d)) (f : Int) = at0 (jS c d (jW c d)) (g : Int)) : (-1 : Int) = jM c d f g := by unfold jM; rw [if_neg h]
theorem jM_s {c d : Cat} {f g : Nat} (h : at0 (jT c d (jW c d)) (f : Int) = at0 (jS c d (jW c d)) (g : Int)) (hf : f < (sumM c d).s.length) (hg : g < (sumM c d).s.length) : at0 (row2 (sumM c d).m (f : Int)) (g : Int) = jM c d f g := by unfold jM; rw [if_pos h, if_pos ⟨hf, hg⟩]
theorem jM_a {c d : Cat} {f g : Nat} (h : at0 (jT c d (jW c d)) (f : Int) = at0 (jS c d (jW c d)) (g : Int)) (hfg : ¬ (f < (sumM c d).s.length ∧ g < (sumM c d).s.length)) : ((sumM c d).s.length : Int) + at0 (jS c d (jW c d)) (f : Int) * d.ob + at0 (jT c d (jW c d)) (g : Int) - c.ob = jM c d f g := by unfold jM; rw [if_pos h, if_neg hfg]
noncomputable def jR (c d : Cat) (f : Nat) : List Int := tabTo (jM c d f) (jN c d)
theorem jR_def (c d : Cat) (f : Nat) : tabTo (jM c d f) (jN c d) = jR c d f := rfl
noncomputable def joinM (c d : Cat) : Cat := ⟨c.ob + d.ob, jS c d (jW c d), jT c d (jW c d), (sumM c d).e, rowsTo (jR c d) (jN c d)⟩
theorem jn_at {c d : Cat} (hS : ShapeP c) (gS : ShapeP d) {k : Nat} (hk : k < jN c d) :
  (k < (sumM c d).s.length ∧ at0 (jS c d (jW c d)) (k : Int) = (entS c d k).1 ∧ at0 (jT c d (jW c d)) (k : Int) = (entS c d k).2.1) ∨
  ∃ x y : Nat, (x : Int) < c.ob ∧ (y : Int) < d.ob ∧ k = (sumM c d).s.length + (d.ob.toNat * x + y) ∧ at0 (jS c d (jW c d)) (k : Int) = x ∧ at0 (jT c d (jW c d)) (k : Int) = c.ob + y := by
 have hP := sumP hS gS
 have hsl := hP.sl; have htl := hP.tl
 have hob0 := hS.ob0; have gob0 := gS.ob0
 unfold jN at hk
 by_cases h : k < (sumM c d).s.length
 ·refine .inl ⟨h, ?_, ?_⟩
  ·rw [← hP.s k (by omega)]; exact grow_l h
  rw [← hP.t k (by omega)]; exact grow_l (by omega)
 have hw : k - (sumM c d).s.length < d.ob.toNat * c.ob.toNat := by unfold jW at hk; omega
 have h1 := grid_divlt hw; have h2 := grid_modlt hw; have h3 := grid_eq (k - (sumM c d).s.length) d.ob.toNat
 refine .inr ⟨(k - (sumM c d).s.length) / d.ob.toNat, (k - (sumM c d).s.length) % d.ob.toNat, by omega, by omega, by omega, ?_, ?_⟩
 ·rw [show at0 (jS c d (jW c d)) (k : Int) = _ from grow_r (by omega) (by omega)]; rfl
 rw [show at0 (jT c d (jW c d)) (k : Int) = _ from grow_r (by omega) (by omega), show k - (sumM c d).t.length = k - (sumM c d).s.length from by omega]; rfl
theorem jn_rng {c d : Cat} (hS : ShapeP c) (gS : ShapeP d) {k : Nat} (hk : k < jN c d) : (0 ≤ at0 (jS c d (jW c d)) (k : Int) ∧ at0 (jS c d (jW c d)) (k : Int) < c.ob + d.ob) ∧ 0 ≤ at0 (jT c d (jW c d)) (k : Int) ∧ at0 (jT c d (jW c d)) (k : Int) < c.ob + d.ob := by
 have hob0 := hS.ob0; have gob0 := gS.ob0
 rcases jn_at hS gS hk with ⟨h, e1, e2⟩ | ⟨x, y, hx, hy, _, e1, e2⟩
 ·have hr := entS_rng hS gS (i := k) (by have := (sumP hS gS).sl; omega)
  rw [e1, e2]; exact ⟨hr.1, hr.2.1⟩
 rw [e1, e2]; omega
theorem jW_le {c d : Cat} (hS : ShapeP c) (gS : ShapeP d) : jW c d ≤ 64 := by
 have h1 := hS.ob8; have h2 := gS.ob8; have h3 := hS.ob0; have h4 := gS.ob0
 have : d.ob.toNat * c.ob.toNat ≤ 8 * 8 := Nat.mul_le_mul (by omega) (by omega)
 exact this
theorem mul_bd3 {x : Int} {a b : Int} (hx : 0 ≤ x ∧ x < a) (ha : a ≤ 40) (hb : 0 ≤ b ∧ b ≤ 40) : 0 ≤ x * b ∧ x * b ≤ 1600 := ⟨Int.mul_nonneg hx.1 hb.1, by have := Int.mul_le_mul (show x ≤ 40 by omega) hb.2 hb.1 (by omega); omega⟩
theorem grid_small3 {n m a b : Nat} (hn : n ≤ 40) (hm : m ≤ 40) (ha : a < n) (hb : b ≤ m) : m * a + b ≤ 1600 := by
 have h1 := grid_le (n := n) ha hb
 have h2 : m * n ≤ 40 * 40 := Nat.mul_le_mul hm hn
 omega
theorem specJoinCat_any (w : World) (v : Value) (c : Cat) (h : RdC w v c) (u : Value) (d : Cat) (e : RdC w u d) (hS : ShapeP c) (gS : ShapeP d) :
  Calls Try.prog 102 #[v, u] w (RetC w (joinM c d)) := by
 have h0 := h
 obtain ⟨va, vb, vc, vd, ve, vf, vg, vh, rfl, h1, h2, h3, h4, _⟩ := h.lists
 have e0 := e
 obtain ⟨ua, ub, uc, ud, ue, uf, ug, uh, rfl, e1, e2, e3, e4, _⟩ := e.lists
 have hn40 := hS.n40; have htl := hS.tl; have hel := hS.el; have hob0 := hS.ob0; have hob8 := hS.ob8; have hml := hS.ml
 have gn40 := gS.n40; have gtl := gS.tl; have gel := gS.el; have gob0 := gS.ob0; have gob8 := gS.ob8; have gml := gS.ml
 have hP := sumP hS gS
 have psl := hP.sl; have ptl := hP.tl; have pel := hP.el; have pml := hP.ml
 have hw := jW_le hS gS
 go_enter func102, Try.ntmps102
 refine gc_enter (N := 122) rfl (look_cons (k := 0) rfl (look_cons (k := 1) rfl (look_nil _))) ?_
 refine gc_sr fun K1 hK1 => ?_
 refine gop fun K3 hK3 => ?_
 refine go_box rfl rfl rfl rfl rfl ?_
 intro B2
 refine hK3 _ _ ?_
 refine gop fun K5 hK5 => ?_
 refine go_box rfl rfl rfl rfl rfl ?_
 intro B4
 refine hK5 _ _ ?_
 refine gop fun K7 hK7 => ?_
 refine galC ?_
 intro B6
 refine hK7 _ _ ?_
 refine gnt (hK1 _ _ ?_)
 refine gc_sr fun K8 hK8 => ?_
 refine gv (qts underlying27 (n := 0)) ?_
 refine gv (qts underlying27 (n := 1)) ?_
 refine gop fun K10 hK10 => ?_
 refine go_callC rfl rfl rfl func82 rfl (by decide) rfl (fun w M => specSum_any w _ _ (mem_rdC M h0) _ _ (mem_rdC M e0) (hS) (gS)) ?_
 intro ca9 cb9 cc9 cd9 ce9 cf9 cg9 ch9 cu9
 refine hK10 _ _ ?_
 refine gop fun K12 hK12 => ?_
 refine galC ?_
 intro B11
 refine hK12 _ _ ?_
 refine gop fun K13 hK13 => ?_
 refine gss 7 ?_
 refine hK13 _ _ ?_
 refine gnt (hK8 _ _ ?_)
 refine gc_sr fun K14 hK14 => ?_
 refine gv (qtf underlying27 (z := 0) (off := 1)) ?_
 refine gv (qtl underlying24 (n := 7)) ?_
 refine gv (qln (fun w M => lenV_own1 (n := 3) rfl M)) ?_
 refine gas ?_
 refine gnt (hK14 _ _ ?_)
 refine gc_seq fun K15 hK15 => ?_
 refine gc_sr fun K16 hK16 => ?_
 refine gas ?_
 refine gnt (hK16 _ _ ?_)
 refine gc_block ?_
 try simp only [sL]
 refine gc_loopT ([(0, _), (1, _), (2, _), (3, _), (4, _), (5, _), (6, _)] : Env) (fun s : Nat × (Option Addr) × Nat × (Option Addr) × Nat × (Option Addr) × Nat × (Option Addr) × Nat × Nat × (List Value) => (fun (x : Nat) (a1 : Option Addr) (q1 : Nat) (a2 : Option Addr) (q2 : Nat) (a3 : Option Addr) (q3 : Nat) (a4 : Option Addr) (nl : Nat) (q4 : Nat) (us : List Value) => (([(7, .int .i64 (x : Int))] : Env), ([(3, own1I (.slice a1 (jS c d (d.ob.toNat * x)).length q1) (jS c d (d.ob.toNat * x))), (4, own1I (.slice a2 (jT c d (d.ob.toNat * x)).length q2) (jT c d (d.ob.toNat * x))), (5, own1I (.slice a3 ((sumM c d).e).length q3) ((sumM c d).e)), (6, own2U (.slice a4 nl q4) us (sumM c d).m), (7, bxI B11 27 [.int .i64 (sumM c d).ob, .slice a1 (jS c d (d.ob.toNat * x)).length q1, .slice a2 (jT c d (d.ob.toNat * x)).length q2, .slice a3 ((sumM c d).e).length q3, .slice a4 nl q4])] : List (Nat × Itm)), x ≤ c.ob.toNat, c.ob.toNat - x)) s.1 s.2.1 s.2.2.1 s.2.2.2.1 s.2.2.2.2.1 s.2.2.2.2.2.1 s.2.2.2.2.2.2.1 s.2.2.2.2.2.2.2.1 s.2.2.2.2.2.2.2.2.1 s.2.2.2.2.2.2.2.2.2.1 s.2.2.2.2.2.2.2.2.2.2) (0, _, _, _, _, _, _, _, _, _, _) (by repeat first | exact sub_nil | refine sub_cons rfl ?_) rfl (Nat.zero_le _) ?_
 rintro ⟨x, a1, q1, a2, q2, a3, q3, a4, nl, q4, us⟩ hinv KL17 hKL17
 simp only [sU, sL] at hinv hKL17 ⊢
 have hx := hinv
 refine gc_seq fun K18 hK18 => ?_
 refine gc_sr fun K19 hK19 => ?_
 refine gm ?_
 refine gv (qtf underlying27 (z := 0) (off := 0)) ?_
 refine gv (qtl underlying2 (n := 0)) ?_
 refine gv (qt_lss rfl rfl rfl) ?_
 refine gnt (hK19 _ _ ?_)
 refine gc_cond rfl (fun hc0 => ?_) (fun hc0 => ?_)
 ·try simp only [sA] at hc0
  refine gc_skip ?_
  refine gk_then (hK18 _ _ ?_)
  refine gc_seq fun K20 hK20 => ?_
  refine gc_block ?_
  refine gc_sr fun K21 hK21 => ?_
  refine gas ?_
  refine gnt (hK21 _ _ ?_)
  refine gc_block ?_
  try simp only [sL]
  refine gc_loopT ([(0, _), (1, _), (2, _), (3, _), (4, _), (5, _), (6, _), (7, _), (23, _)] : Env) (fun s : Nat × (Option Addr) × Nat × (Option Addr) × Nat => (fun (y : Nat) (a1 : Option Addr) (q1 : Nat) (a2 : Option Addr) (q2 : Nat) => (([(8, .int .i64 (y : Int))] : Env), ([(3, own1I (.slice a1 (jS c d (d.ob.toNat * x + y)).length q1) (jS c d (d.ob.toNat * x + y))), (4, own1I (.slice a2 (jT c d (d.ob.toNat * x + y)).length q2) (jT c d (d.ob.toNat * x + y))), (7, bxI B11 27 [.int .i64 (sumM c d).ob, .slice a1 (jS c d (d.ob.toNat * x + y)).length q1, .slice a2 (jT c d (d.ob.toNat * x + y)).length q2, .slice a3 ((sumM c d).e).length q3, .slice a4 nl q4])] : List (Nat × Itm)), y ≤ d.ob.toNat, d.ob.toNat - y)) s.1 s.2.1 s.2.2.1 s.2.2.2.1 s.2.2.2.2) (0, _, _, _, _) (by repeat first | exact sub_nil | refine sub_cons rfl ?_) rfl (Nat.zero_le _) ?_
  rintro ⟨y, a1, q1, a2, q2⟩ hinv KL22 hKL22
  simp only [sU, sL] at hinv hKL22 ⊢
  have hy := hinv
  refine gc_seq fun K23 hK23 => ?_
  refine gc_sr fun K24 hK24 => ?_
  refine gm ?_
  refine gv (qtf underlying27 (z := 0) (off := 0)) ?_
  refine gv (qtl underlying2 (n := 1)) ?_
  refine gv (qt_lss rfl rfl rfl) ?_
  refine gnt (hK24 _ _ ?_)
  refine gc_cond rfl (fun hc1 => ?_) (fun hc1 => ?_)
  ·try simp only [sA] at hc1
   refine gc_skip ?_
   refine gk_then (hK23 _ _ ?_)
   refine gc_seq fun K25 hK25 => ?_
   refine gc_block ?_
   refine gc_seq fun K26 hK26 => ?_
   have hl1 := jS_len c d (d.ob.toNat * x + y)
   have hl2 := jT_len c d (d.ob.toNat * x + y)
   have hg := grid_small3 (n := c.ob.toNat) (m := d.ob.toNat) (a := x) (b := y) (by omega) (by omega) (by omega) (by omega)
   refine gc_region ?_
   refine gv (qtf underlying27 (z := 0) (off := 1)) ?_
   refine gv (qtl underlying24 (n := 7)) ?_
   refine gm ?_
   refine gop fun K28 hK28 => ?_
   refine go_slice1 rfl rfl rfl rfl underlying24 ?_
   intro B27
   refine hK28 _ _ ?_
   refine gop fun K30 hK30 => ?_
   refine go_append (n := 3) (m := 8) rfl rfl rfl underlying24 rfl rfl rfl rfl (by omega) ?_
   intro va29 vc29
   refine hK30 _ _ ?_
   refine gv (qtf underlying27 (z := 0) (off := 1)) ?_
   refine gop fun K31 hK31 => ?_
   refine go_storeB (n := 7) rfl rfl rfl rfl (by kernel_rfl) rfl rfl rfl (by first | decide | simp) ?_
   refine hK31 _ _ ?_
   refine gnt (hK26 _ _ ?_)
   refine gc_region ?_
   refine gv (qtf underlying27 (z := 0) (off := 2)) ?_
   refine gv (qtl underlying24 (n := 7)) ?_
   refine gv (qtf underlying27 (z := 0) (off := 0)) ?_
   refine gv (qtl underlying2 (n := 0)) ?_
   refine gm ?_
   refine gv (qt_add rfl rfl rfl (by omega)) ?_
   refine gop fun K33 hK33 => ?_
   refine go_slice1 rfl rfl rfl rfl underlying24 ?_
   intro B32
   refine hK33 _ _ ?_
   refine gop fun K35 hK35 => ?_
   refine go_append (n := 4) (m := 9) rfl rfl rfl underlying24 rfl rfl rfl rfl (by omega) ?_
   intro va34 vc34
   refine hK35 _ _ ?_
   refine gv (qtf underlying27 (z := 0) (off := 2)) ?_
   refine gop fun K36 hK36 => ?_
   refine go_storeB (n := 7) rfl rfl rfl rfl (by kernel_rfl) rfl rfl rfl (by first | decide | simp) ?_
   refine hK36 _ _ ?_
   refine g_nil ?_
   refine gk_block ?_
   refine gk_then (hK25 _ _ ?_)
   refine gc_region ?_
   refine gm ?_
   refine gv (qt_add rfl rfl rfl (by omega)) ?_
   refine gas ?_
   refine g_nil ?_
   rw [jS_step (c := c) (d := d) (x := x) (y := y) (by omega), jT_step (c := c) (d := d) (x := x) (y := y) (by omega)]
   refine gk_then (gk_take 8 ?_)
   refine gk_sub ?hs_37 (hKL22 (y + 1, _, _, _, _) ?hi_37 ?hm_37)
   case hs_37 => repeat first | exact sub_nil | refine sub_cons rfl ?_
   case hi_37 => omega
   case hm_37 => omega
  try simp only [sA] at hc1
  refine gc_exit ?_
  refine gk_then_exit ?_
  refine gk_then_exit ?_
  refine gk_block_hit ?_
  refine gk_block ?_
  refine gk_then (hK20 _ _ ?_)
  refine gc_region ?_
  refine gm ?_
  refine gv (qt_add rfl rfl rfl (by omega)) ?_
  refine gas ?_
  refine g_nil ?_
  obtain rfl : y = d.ob.toNat := by omega
  rw [show d.ob.toNat * x + d.ob.toNat = d.ob.toNat * (x + 1) from rfl]
  refine gk_then (gk_take 8 ?_)
  refine gk_sub ?hs_38 (hKL17 (x + 1, _, _, _, _, _, _, _, _, _, _) ?hi_38 ?hm_38)
  case hs_38 => repeat first | exact sub_nil | refine sub_cons rfl ?_
  case hi_38 => omega
  case hm_38 => omega
 try simp only [sA] at hc0
 refine gc_exit ?_
 refine gk_then_exit ?_
 refine gk_then_exit ?_
 refine gk_block_hit ?_
 refine gk_then (hK15 _ _ ?_)
 refine gc_seq fun K39 hK39 => ?_
 obtain rfl : x = c.ob.toNat := by omega
 simp only [show d.ob.toNat * c.ob.toNat = jW c d from rfl]
 have hl1 := jS_len c d (jW c d)
 have hl2 := jT_len c d (jW c d)
 have hjn : jN c d = (sumM c d).s.length + jW c d := rfl
 refine gc_region ?_
 refine gop fun K41 hK41 => ?_
 refine go_sliceR0 rfl rfl rfl underlying25 ?_
 intro B40
 refine hK41 _ _ ?_
 refine gas ?_
 refine gnt (hK39 _ _ ?_)
 refine gc_seq fun K42 hK42 => ?_
 refine gc_sr fun K43 hK43 => ?_
 refine gas ?_
 refine gnt (hK43 _ _ ?_)
 refine gc_block ?_
 try simp only [sL]
 refine gc_loopT ([(0, _), (1, _), (2, _), (3, _), (4, _), (5, _), (6, _), (7, _), (23, _)] : Env) (fun s : Nat × (Option Addr) × Nat × Nat × (List Value) => (fun (f : Nat) (b : Option Addr) (bl : Nat) (bq : Nat) (vs : List Value) => (([(9, .slice b bl bq), (10, .int .i64 (f : Int))] : Env), ([(8, own2U (.slice b bl bq) vs (rowsTo (jR c d) f))] : List (Nat × Itm)), f ≤ jN c d, jN c d - f)) s.1 s.2.1 s.2.2.1 s.2.2.2.1 s.2.2.2.2) (0, _, _, _, _) (by repeat first | exact sub_nil | refine sub_cons rfl ?_) rfl (Nat.zero_le _) ?_
 rintro ⟨f, b, bl, bq, vs⟩ hinv KL44 hKL44
 simp only [sU, sL] at hinv hKL44 ⊢
 have hf := hinv
 have hl4 := rowsTo_len (jR c d) f
 refine gc_seq fun K45 hK45 => ?_
 refine gc_sr fun K46 hK46 => ?_
 refine gm ?_
 refine gv (qtf underlying27 (z := 0) (off := 1)) ?_
 refine gv (qtl underlying24 (n := 7)) ?_
 refine gv (qln (fun w M => lenV_own1 (n := 3) rfl M)) ?_
 refine gv (qt_lss rfl rfl rfl) ?_
 refine gnt (hK46 _ _ ?_)
 refine gc_cond rfl (fun hc2 => ?_) (fun hc2 => ?_)
 ·try simp only [sA] at hc2
  refine gc_skip ?_
  refine gk_then (hK45 _ _ ?_)
  refine gc_seq fun K47 hK47 => ?_
  refine gc_block ?_
  refine gc_sr fun K48 hK48 => ?_
  refine gop fun K50 hK50 => ?_
  refine go_slice0 rfl rfl rfl underlying24 ?_
  intro B49
  refine hK50 _ _ ?_
  refine gas ?_
  refine gnt (hK48 _ _ ?_)
  refine gc_seq fun K51 hK51 => ?_
  refine gc_sr fun K52 hK52 => ?_
  refine gas ?_
  refine gnt (hK52 _ _ ?_)
  refine gc_block ?_
  try simp only [sL]
  refine gc_loopT ([(0, _), (1, _), (2, _), (3, _), (4, _), (5, _), (6, _), (7, _), (9, _), (10, _), (23, _), (52, _)] : Env) (fun s : Nat × (Option Addr) × Nat => (fun (g : Nat) (z : Option Addr) (p : Nat) => (([(11, .slice z (tabTo (jM c d f) g).length p), (12, .int .i64 (g : Int))] : Env), ([(9, own1I (.slice z (tabTo (jM c d f) g).length p) (tabTo (jM c d f) g))] : List (Nat × Itm)), g ≤ jN c d, jN c d - g)) s.1 s.2.1 s.2.2) (0, _, _) (by repeat first | exact sub_nil | refine sub_cons rfl ?_) rfl (Nat.zero_le _) ?_
  rintro ⟨g, z, p⟩ hinv KL53 hKL53
  simp only [sU, sL] at hinv hKL53 ⊢
  have hg := hinv
  have hl5 := tabTo_len (jM c d f) g
  refine gc_seq fun K54 hK54 => ?_
  refine gc_sr fun K55 hK55 => ?_
  refine gm ?_
  refine gv (qtf underlying27 (z := 0) (off := 1)) ?_
  refine gv (qtl underlying24 (n := 7)) ?_
  refine gv (qln (fun w M => lenV_own1 (n := 3) rfl M)) ?_
  refine gv (qt_lss rfl rfl rfl) ?_
  refine gnt (hK55 _ _ ?_)
  refine gc_cond rfl (fun hc3 => ?_) (fun hc3 => ?_)
  ·try simp only [sA] at hc3
   refine gc_skip ?_
   refine gk_then (hK54 _ _ ?_)
   refine gc_seq fun K56 hK56 => ?_
   refine gc_block ?_
   refine gc_sr fun K57 hK57 => ?_
   refine gas ?_
   refine gnt (hK57 _ _ ?_)
   refine gc_seq fun K58 hK58 => ?_
   refine gc_block ?_
   refine gc_seq fun K59 hK59 => ?_
   refine gc_draw (by kernel_rfl) ?_
   refine gdv (qtf underlying27 (z := 0) (off := 2)) ?_
   refine gdv (qtl underlying24 (n := 7)) ?_
   refine gdv (qt_move rfl rfl) ?_
   refine gdv (qti (fun w M => lenA_own1 (n := 4) rfl M)) ?_
   refine gdv (qtd (fun w M => (mem_own1 (n := 4) M rfl).rd)) ?_
   refine gdv (qtf underlying27 (z := 0) (off := 1)) ?_
   refine gdv (qtl underlying24 (n := 7)) ?_
   refine gdv (qt_move rfl rfl) ?_
   refine gdv (qti (fun w M => lenA_own1 (n := 3) rfl M)) ?_
   refine gdv (qtd (fun w M => (mem_own1 (n := 3) M rfl).rd)) ?_
   refine gdv (qt_neq rfl rfl rfl) ?_
   refine gdv (qt_assign rfl rfl) ?_
   refine gd_nil ?_
   refine gk_then (hK59 _ _ ?_)
   refine gc_cond rfl (fun hc4 => ?_) (fun hc4 => ?_)
   ·try simp only [sA] at hc4
    refine gc_skip ?_
    refine gk_block ?_
    refine gk_then (hK58 _ _ ?_)
    refine gc_region ?_
    refine gm ?_
    refine gm ?_
    refine gop fun K61 hK61 => ?_
    refine go_slice1 rfl rfl rfl rfl underlying24 ?_
    intro B60
    refine hK61 _ _ ?_
    refine gop fun K63 hK63 => ?_
    refine go_append (n := 9) (m := 10) rfl rfl rfl underlying24 rfl rfl rfl rfl (by omega) ?_
    intro va62 vc62
    refine hK63 _ _ ?_
    refine gas ?_
    refine g_nil ?_
    refine gk_block ?_
    refine gk_then (hK56 _ _ ?_)
    refine gc_region ?_
    refine gm ?_
    refine gv (qt_add rfl rfl rfl (by omega)) ?_
    refine gas ?_
    refine g_nil ?_
    rw [jM_n (c := c) (d := d) (f := f) (g := g) (by assumption)]
    simp only [tabTo_succ]
    refine gk_then (gk_take 10 ?_)
    refine gk_sub ?hs_64 (hKL53 (g + 1, _, _) ?hi_64 ?hm_64)
    case hs_64 => repeat first | exact sub_nil | refine sub_cons rfl ?_
    case hi_64 => omega
    case hm_64 => omega
   try simp only [sA] at hc4
   refine gc_sr fun K65 hK65 => ?_
   refine gm ?_
   refine gm ?_
   refine gv (qt_lss rfl rfl rfl) ?_
   refine g_splitv (.free rfl) rfl rfl (qt_move rfl rfl) (fun hs22_3 => ?_) (fun hs22_3 => ?_)
   ·try simp only [sA] at hs22_3
    refine gvh (qt_move rfl rfl) ?_
    refine gvh (qt_move rfl rfl) ?_
    refine gvh (qt_lss rfl rfl rfl) ?_
    refine gv (qt_pick_t rfl rfl rfl) ?_
    refine gas ?_
    refine gnt (hK65 _ _ ?_)
    refine gc_cond rfl (fun hc5 => ?_) (fun hc5 => ?_)
    ·try simp only [sA] at hc5
     have r5 := hP.rl f (by omega)
     refine gc_region ?_
     refine gv (qtf underlying27 (z := 0) (off := 4)) ?_
     refine gv (qtl underlying25 (n := 7)) ?_
     refine gm ?_
     refine gv (qti2 (fun w M => lenA_U (n := 6) rfl M)) ?_
     refine gv (qt_loadU (n := 6) rfl rfl underlying24 rfl rfl (by omega) (by omega)) ?_
     refine gm ?_
     refine gv (qt_index rfl rfl rfl ulE1 szE1 (fun w M => lenA_row (n := 6) rfl (by omega) (by omega) M) (by omega) (by omega)) ?_
     refine gv (qt_load1 rfl rfl underlying2 rfl (fun w M => mem_rowU (n := 6) M rfl (by omega) (by omega)) (by omega) (by omega)) ?_
     refine gas ?_
     refine g_nil ?_
     refine gk_block ?_
     refine gk_then (hK58 _ _ ?_)
     refine gc_region ?_
     refine gm ?_
     refine gm ?_
     refine gop fun K67 hK67 => ?_
     refine go_slice1 rfl rfl rfl rfl underlying24 ?_
     intro B66
     refine hK67 _ _ ?_
     refine gop fun K69 hK69 => ?_
     refine go_append (n := 9) (m := 10) rfl rfl rfl underlying24 rfl rfl rfl rfl (by omega) ?_
     intro va68 vc68
     refine hK69 _ _ ?_
     refine gas ?_
     refine g_nil ?_
     refine gk_block ?_
     refine gk_then (hK56 _ _ ?_)
     refine gc_region ?_
     refine gm ?_
     refine gv (qt_add rfl rfl rfl (by omega)) ?_
     refine gas ?_
     refine g_nil ?_
     rw [jM_s (c := c) (d := d) (f := f) (g := g) (by assumption) (by omega) (by omega)]
     simp only [tabTo_succ]
     refine gk_then (gk_take 10 ?_)
     refine gk_sub ?hs_70 (hKL53 (g + 1, _, _) ?hi_70 ?hm_70)
     case hs_70 => repeat first | exact sub_nil | refine sub_cons rfl ?_
     case hi_70 => omega
     case hm_70 => omega
    try simp only [sA] at hc5
    have r1 := jn_rng hS gS (k := f) (by omega)
    have r2 := jn_rng hS gS (k := g) (by omega)
    have r3 := mul_bd3 (x := at0 (jS c d (jW c d)) (f : Int)) (a := c.ob + d.ob) (b := d.ob) r1.1 (by omega) (by omega)
    have r4 := r2.2
    refine gc_draw (by kernel_rfl) ?_
    refine gdv (qt_move rfl rfl) ?_
    refine gdv (qtf underlying27 (z := 0) (off := 1)) ?_
    refine gdv (qtl underlying24 (n := 7)) ?_
    refine gdv (qt_move rfl rfl) ?_
    refine gdv (qti (fun w M => lenA_own1 (n := 3) rfl M)) ?_
    refine gdv (qtd (fun w M => (mem_own1 (n := 3) M rfl).rd)) ?_
    refine gdv (qtf underlying27 (z := 0) (off := 0)) ?_
    refine gdv (qtl underlying2 (n := 1)) ?_
    refine gdv (qt_mul rfl rfl rfl (by omega)) ?_
    refine gdv (qt_add rfl rfl rfl (by omega)) ?_
    refine gdv (qtf underlying27 (z := 0) (off := 2)) ?_
    refine gdv (qtl underlying24 (n := 7)) ?_
    refine gdv (qt_move rfl rfl) ?_
    refine gdv (qti (fun w M => lenA_own1 (n := 4) rfl M)) ?_
    refine gdv (qtd (fun w M => (mem_own1 (n := 4) M rfl).rd)) ?_
    refine gdv (qt_add rfl rfl rfl (by omega)) ?_
    refine gdv (qtf underlying27 (z := 0) (off := 0)) ?_
    refine gdv (qtl underlying2 (n := 0)) ?_
    refine gdv (qt_sub rfl rfl rfl (by omega)) ?_
    refine gdv (qt_assign rfl rfl) ?_
    refine gd_nil ?_
    refine gk_block ?_
    refine gk_then (hK58 _ _ ?_)
    refine gc_region ?_
    refine gm ?_
    refine gm ?_
    refine gop fun K72 hK72 => ?_
    refine go_slice1 rfl rfl rfl rfl underlying24 ?_
    intro B71
    refine hK72 _ _ ?_
    refine gop fun K74 hK74 => ?_
    refine go_append (n := 9) (m := 10) rfl rfl rfl underlying24 rfl rfl rfl rfl (by omega) ?_
    intro va73 vc73
    refine hK74 _ _ ?_
    refine gas ?_
    refine g_nil ?_
    refine gk_block ?_
    refine gk_then (hK56 _ _ ?_)
    refine gc_region ?_
    refine gm ?_
    refine gv (qt_add rfl rfl rfl (by omega)) ?_
    refine gas ?_
    refine g_nil ?_
    rw [jM_a (c := c) (d := d) (f := f) (g := g) (by assumption) (by omega)]
    simp only [tabTo_succ]
    refine gk_then (gk_take 10 ?_)
    refine gk_sub ?hs_75 (hKL53 (g + 1, _, _) ?hi_75 ?hm_75)
    case hs_75 => repeat first | exact sub_nil | refine sub_cons rfl ?_
    case hi_75 => omega
    case hm_75 => omega
   try simp only [sA] at hs22_3
   refine gsk ?_
   refine gsk ?_
   refine gsk ?_
   refine gv (qt_pick_f rfl rfl rfl) ?_
   refine gas ?_
   refine gnt (hK65 _ _ ?_)
   refine gc_cond_f rfl ?_
   have r1 := jn_rng hS gS (k := f) (by omega)
   have r2 := jn_rng hS gS (k := g) (by omega)
   have r3 := mul_bd3 (x := at0 (jS c d (jW c d)) (f : Int)) (a := c.ob + d.ob) (b := d.ob) r1.1 (by omega) (by omega)
   have r4 := r2.2
   refine gc_draw (by kernel_rfl) ?_
   refine gdv (qt_move rfl rfl) ?_
   refine gdv (qtf underlying27 (z := 0) (off := 1)) ?_
   refine gdv (qtl underlying24 (n := 7)) ?_
   refine gdv (qt_move rfl rfl) ?_
   refine gdv (qti (fun w M => lenA_own1 (n := 3) rfl M)) ?_
   refine gdv (qtd (fun w M => (mem_own1 (n := 3) M rfl).rd)) ?_
   refine gdv (qtf underlying27 (z := 0) (off := 0)) ?_
   refine gdv (qtl underlying2 (n := 1)) ?_
   refine gdv (qt_mul rfl rfl rfl (by omega)) ?_
   refine gdv (qt_add rfl rfl rfl (by omega)) ?_
   refine gdv (qtf underlying27 (z := 0) (off := 2)) ?_
   refine gdv (qtl underlying24 (n := 7)) ?_
   refine gdv (qt_move rfl rfl) ?_
   refine gdv (qti (fun w M => lenA_own1 (n := 4) rfl M)) ?_
   refine gdv (qtd (fun w M => (mem_own1 (n := 4) M rfl).rd)) ?_
   refine gdv (qt_add rfl rfl rfl (by omega)) ?_
   refine gdv (qtf underlying27 (z := 0) (off := 0)) ?_
   refine gdv (qtl underlying2 (n := 0)) ?_
   refine gdv (qt_sub rfl rfl rfl (by omega)) ?_
   refine gdv (qt_assign rfl rfl) ?_
   refine gd_nil ?_
   refine gk_block ?_
   refine gk_then (hK58 _ _ ?_)
   refine gc_region ?_
   refine gm ?_
   refine gm ?_
   refine gop fun K77 hK77 => ?_
   refine go_slice1 rfl rfl rfl rfl underlying24 ?_
   intro B76
   refine hK77 _ _ ?_
   refine gop fun K79 hK79 => ?_
   refine go_append (n := 9) (m := 10) rfl rfl rfl underlying24 rfl rfl rfl rfl (by omega) ?_
   intro va78 vc78
   refine hK79 _ _ ?_
   refine gas ?_
   refine g_nil ?_
   refine gk_block ?_
   refine gk_then (hK56 _ _ ?_)
   refine gc_region ?_
   refine gm ?_
   refine gv (qt_add rfl rfl rfl (by omega)) ?_
   refine gas ?_
   refine g_nil ?_
   rw [jM_a (c := c) (d := d) (f := f) (g := g) (by assumption) (by omega)]
   simp only [tabTo_succ]
   refine gk_then (gk_take 10 ?_)
   refine gk_sub ?hs_80 (hKL53 (g + 1, _, _) ?hi_80 ?hm_80)
   case hs_80 => repeat first | exact sub_nil | refine sub_cons rfl ?_
   case hi_80 => omega
   case hm_80 => omega
  try simp only [sA] at hc3
  refine gc_exit ?_
  refine gk_then_exit ?_
  refine gk_then_exit ?_
  refine gk_block_hit ?_
  refine gk_then (hK51 _ _ ?_)
  refine gc_region ?_
  refine gm ?_
  refine gm ?_
  refine gop fun K82 hK82 => ?_
  refine go_sliceR1 (m := 9) rfl rfl rfl rfl underlying25 rfl ?_
  intro B81
  refine hK82 _ _ ?_
  refine gop fun K84 hK84 => ?_
  refine go_appendRow (n := 8) (m := 9) (m' := 8) rfl rfl rfl underlying25 rfl rfl rfl rfl rfl (by omega) ?_
  intro va83 vc83
  refine hK84 _ _ ?_
  refine gas ?_
  refine g_nil ?_
  refine gk_block ?_
  refine gk_then (hK47 _ _ ?_)
  refine gc_region ?_
  refine gm ?_
  refine gv (qt_add rfl rfl rfl (by omega)) ?_
  refine gas ?_
  refine g_nil ?_
  obtain rfl : g = jN c d := by omega
  rw [jR_def]
  simp only [rowsTo_succ]
  refine gk_then (gk_take 9 ?_)
  refine gk_sub ?hs_85 (hKL44 (f + 1, _, _, _, _) ?hi_85 ?hm_85)
  case hs_85 => repeat first | exact sub_nil | refine sub_cons rfl ?_
  case hi_85 => omega
  case hm_85 => omega
 try simp only [sA] at hc2
 refine gc_exit ?_
 refine gk_then_exit ?_
 refine gk_then_exit ?_
 refine gk_block_hit ?_
 refine gk_then (hK42 _ _ ?_)
 refine gc_sr fun K86 hK86 => ?_
 refine gm ?_
 refine gv (qtf underlying27 (z := 0) (off := 4)) ?_
 refine gop fun K87 hK87 => ?_
 refine go_storeB (n := 7) rfl rfl rfl rfl (by kernel_rfl) rfl rfl rfl (by first | decide | simp) ?_
 refine hK87 _ _ ?_
 refine gnt (hK86 _ _ ?_)
 refine gc_sr fun K88 hK88 => ?_
 refine gv (qts underlying27 (n := 7)) ?_
 refine gop fun K89 hK89 => ?_
 refine gss 2 ?_
 refine hK89 _ _ ?_
 refine gnt (hK88 _ _ ?_)
 refine gc_ret ?_
 refine ret_S (n := 2) rfl rfl underlying27 rfl (by kernel_rfl) rfl (fun w M => ?_)
 obtain rfl : f = jN c d := by omega
 exact ⟨_, rfl, ownC_star (c := joinM c d) (mem_pick (n := 6) (mem_pick (n := 6) (mem_pick (n := 6) (mem_pick (n := 8) (M) rfl) rfl) rfl) rfl).2, M.1⟩
end Go.Proofs.Ytbiplocgenppoaa
namespace Go.Proofs.Ytbiplocgenppoaa
open _root_.Go.Proofs.Try
open Go.RowKit
theorem jn_arrow {c d : Cat} (hS : ShapeP c) (gS : ShapeP d) {x y : Nat} (hx : (x : Int) < c.ob) (hy : (y : Int) < d.ob) :
    (sumM c d).s.length + (d.ob.toNat * x + y) < jN c d ∧ at0 (jS c d (jW c d)) (((sumM c d).s.length + (d.ob.toNat * x + y) : Nat) : Int) = x ∧ at0 (jT c d (jW c d)) (((sumM c d).s.length + (d.ob.toNat * x + y) : Nat) : Int) = c.ob + y := by
  have hP := sumP hS gS
  have hsl := hP.sl; have htl := hP.tl
  have hob0 := hS.ob0; have gob0 := gS.ob0
  have hlt : d.ob.toNat * x + y < jW c d := by
    have h1 : d.ob.toNat * (x + 1) ≤ d.ob.toNat * c.ob.toNat := Nat.mul_le_mul_left _ (by omega)
    rw [Nat.mul_succ] at h1
    unfold jW; omega
  refine ⟨by unfold jN; omega, ?_, ?_⟩
  · rw [show at0 (jS c d (jW c d)) _ = _ from grow_r (j := (sumM c d).s.length + (d.ob.toNat * x + y)) (by omega) (by omega)]
    rw [show (sumM c d).s.length + (d.ob.toNat * x + y) - (sumM c d).s.length = d.ob.toNat * x + y from by omega]
    unfold jnA; rw [grid_div (by omega)]
  rw [show at0 (jT c d (jW c d)) _ = _ from grow_r (j := (sumM c d).s.length + (d.ob.toNat * x + y)) (by omega) (by omega)]
  rw [show (sumM c d).s.length + (d.ob.toNat * x + y) - (sumM c d).t.length = d.ob.toNat * x + y from by omega]
  unfold jnB; rw [grid_mod (by omega)]
theorem jn_val {c d : Cat} (gob0 : 0 ≤ d.ob) (l x y : Nat) : (l : Int) + (x : Int) * d.ob + (c.ob + (y : Int)) - c.ob = ((l + (d.ob.toNat * x + y) : Nat) : Int) := by
  obtain ⟨D, hD⟩ := Int.eq_ofNat_of_zero_le gob0
  rw [hD, Int.toNat_natCast]
  have h : (x : Int) * (D : Int) = ((D * x : Nat) : Int) := by rw [Int.natCast_mul, Int.mul_comm]
  omega
theorem join_shape {c d : Cat} (hS : ShapeP c) (gS : ShapeP d) (hn : c.ob + d.ob ≤ 8) (hm : jN c d ≤ 40) : ShapeP (joinM c d) := by
  have hP := sumP hS gS
  have hsl := hP.sl; have htl := hP.tl; have hel := hP.el
  have ob0 := hS.ob0; have gob0 := gS.ob0
  have low : ∀ k : Nat, k < c.s.length + d.s.length → at0 (jS c d (jW c d)) (k : Int) = (entS c d k).1 ∧ at0 (jT c d (jW c d)) (k : Int) = (entS c d k).2.1 := fun k hk => by
    rcases jn_at hS gS (k := k) (by unfold jN; omega) with ⟨_, h1, h2⟩ | ⟨x, y, _, _, he, _, _⟩
    · exact ⟨h1, h2⟩
    omega
  have hNl : jN c d = (sumM c d).s.length + jW c d := rfl
  refine shape_by (N := (c.ob + d.ob).toNat) (m := jN c d) (S := fun k => at0 (jS c d (jW c d)) (k : Int)) (T := fun k => at0 (jT c d (jW c d)) (k : Int)) (E := fun x => at0 (sumM c d).e (x : Int)) (M := jM c d) (by show c.ob + d.ob = _; omega) (by omega) hm (jS_len _ _ _) (by show (jT _ _ _).length = _; rw [jT_len]; omega) (by show (sumM c d).e.length = _; omega) (rowsTo_len _ _)
    (fun f hf => by show (row2 (rowsTo _ _) _).length = _; rw [rowsTo_at _ hf]; exact tabTo_len _ _) (fun f hf => rfl) (fun f hf => rfl) (fun x hx => rfl) (fun f g hf hg => by show at0 (row2 (rowsTo _ _) _) _ = _; rw [rowsTo_at _ hf]; exact tabTo_at _ hg)
    (fun f hf => by have := (jn_rng hS gS hf).1; omega) (fun f hf => by have := (jn_rng hS gS hf).2; omega) (fun x hx => ?_) (fun f g hf hg => ?_)
  · obtain ⟨k, hk, h1, h2, h3⟩ := hP.id x (by omega)
    have hl := low k hk
    rw [h1, Int.toNat_natCast]
    exact ⟨by omega, by omega, by rw [hl.1]; exact h2, by rw [hl.2]; exact h3⟩
  refine ⟨fun he => ?_, fun he => (jM_n he).symm⟩
  have key : ∃ k : Nat, jM c d f g = (k : Int) ∧ k < jN c d ∧ at0 (jS c d (jW c d)) (k : Int) = at0 (jS c d (jW c d)) (f : Int) ∧ at0 (jT c d (jW c d)) (k : Int) = at0 (jT c d (jW c d)) (g : Int) := by
    rcases jn_at hS gS hf with ⟨f1, f2, f3⟩ | ⟨x, y, fx, fy, fk, f2, f3⟩ <;> rcases jn_at hS gS hg with ⟨g1, g2, g3⟩ | ⟨x', y', gx, gy, gk, g2, g3⟩
    · obtain ⟨k, hk, h1, h2, h3⟩ := hP.co f g (by omega) (by omega) (by rw [← f3, ← g2]; exact he)
      have hl := low k hk
      exact ⟨k, by rw [← jM_s he f1 g1, h1], by omega, by rw [hl.1, h2, f2], by rw [hl.2, h3, g3]⟩
    · have hr := entS_rng hS gS (i := f) (by omega)
      have he' : at0 (jT c d (jW c d)) (f : Int) = at0 (jS c d (jW c d)) (g : Int) := he
      have hlt : (entS c d f).1 < c.ob := hr.2.2.2 (by rw [← f3, he', g2]; exact gx)
      obtain ⟨q, hq⟩ := Int.eq_ofNat_of_zero_le hr.1.1
      have ha := jn_arrow hS gS (x := q) (y := y') (by omega) gy
      refine ⟨_, ?_, ha.1, by rw [ha.2.1, f2, hq], by rw [ha.2.2, g3]⟩
      rw [← jM_a he (fun h => by omega), f2, g3, hq]
      exact jn_val gob0 _ q y'
    · have hr := entS_rng hS gS (i := g) (by omega)
      have he' : at0 (jT c d (jW c d)) (f : Int) = at0 (jS c d (jW c d)) (g : Int) := he
      have hge : ¬ (entS c d g).2.1 < c.ob := fun h => by
        have := hr.2.2.2 h
        rw [← g2, ← he', f3] at this; omega
      obtain ⟨q, hq⟩ := Int.eq_ofNat_of_zero_le (show 0 ≤ (entS c d g).2.1 - c.ob by omega)
      have ha := jn_arrow hS gS (x := x) (y := q) fx (by omega)
      refine ⟨_, ?_, ha.1, by rw [ha.2.1, f2], by rw [ha.2.2, g3]; omega⟩
      rw [← jM_a he (fun h => by omega), f2, g3, show (entS c d g).2.1 = c.ob + (q : Int) from by omega]
      exact jn_val gob0 _ x q
    have he' : at0 (jT c d (jW c d)) (f : Int) = at0 (jS c d (jW c d)) (g : Int) := he
    rw [f3, g2] at he'; omega
  obtain ⟨k, h1, h2, h3, h4⟩ := key
  show 0 ≤ jM c d f g ∧ _
  rw [h1, Int.toNat_natCast]
  exact ⟨by omega, by omega, h3, h4⟩
end Go.Proofs.Ytbiplocgenppoaa
