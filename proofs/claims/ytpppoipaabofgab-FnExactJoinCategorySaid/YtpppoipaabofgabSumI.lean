
/- The sum of two categories: the program's. -/
import Derived.Test.YtpppoipaabofgabShort
import Derived.Test.YtpppoipaabofgabSumS
import Derived.Test.YtpppoipaabofgabPlanS
set_option linter.unusedSimpArgs false
set_option linter.unusedVariables false
set_option linter.unusedSectionVars false
namespace Go.Proofs.Ytpppoipaabofgab
open Go.RowKit


theorem rep_at1 {n i : Nat} (h : i < n) : at0 (List.replicate n (-1)) (i : Int) = -1 := by
 rw [at0_nat]; simp [List.getD_eq_getElem?_getD, List.getElem?_replicate, h]
def offS (c d : Cat) (k : Nat) : Nat := if k = 0 then 0 else if k = 1 then c.s.length else c.s.length + d.s.length
def catS (c d : Cat) (k : Nat) : Cat := if k = 0 then c else d
theorem offS_0 {c d : Cat} {k : Nat} (h : k = 0) : offS c d k = 0 ∧ offS c d (k + 1) = c.s.length ∧ catS c d k = c := by subst h; exact ⟨rfl, rfl, rfl⟩
theorem offS_1 {c d : Cat} {k : Nat} (h : k = 1) : offS c d k = c.s.length ∧ offS c d (k + 1) = c.s.length + d.s.length ∧ catS c d k = d := by subst h; exact ⟨rfl, rfl, rfl⟩
def entS (c d : Cat) (j : Nat) : Ent (Int × Int) := if j < c.s.length then (at0 c.s (j : Int), at0 c.t (j : Int), ((0 : Int), (j : Int))) else (c.ob + at0 d.s ((j - c.s.length : Nat) : Int), c.ob + at0 d.t ((j - c.s.length : Nat) : Int), ((1 : Int), ((j - c.s.length : Nat) : Int)))
theorem entS_l {c d : Cat} {j : Nat} (h : j < c.s.length) : entS c d j = (at0 c.s (j : Int), at0 c.t (j : Int), ((0 : Int), (j : Int))) := if_pos h
theorem entS_r {c d : Cat} (j : Nat) : entS c d (c.s.length + j) = (c.ob + at0 d.s (j : Int), c.ob + at0 d.t (j : Int), ((1 : Int), (j : Int))) := by
 unfold entS; rw [if_neg (by omega), show c.s.length + j - c.s.length = j from by omega]
theorem entS_0 {c d : Cat} {k l : Nat} (hk : k = 0) (h : l < c.s.length) : ((k : Int) * c.ob + at0 c.s (l : Int), (k : Int) * c.ob + at0 c.t (l : Int), ((k : Int), (l : Int))) = entS c d (offS c d k + l) := by
 subst hk; rw [(offS_0 rfl).1, Nat.zero_add, entS_l h]; simp
theorem entS_1 {c d : Cat} {k l : Nat} (hk : k = 1) : ((k : Int) * c.ob + at0 d.s (l : Int), (k : Int) * c.ob + at0 d.t (l : Int), ((k : Int), (l : Int))) = entS c d (offS c d k + l) := by
 subst hk; rw [(offS_1 rfl).1, entS_r]; simp
theorem entS_cases {c d : Cat} {j : Nat} (h : j < c.s.length + d.s.length) : (j < c.s.length ∧ entS c d j = (at0 c.s (j : Int), at0 c.t (j : Int), ((0 : Int), (j : Int)))) ∨ ∃ i, i < d.s.length ∧ j = c.s.length + i ∧ entS c d j = (c.ob + at0 d.s (i : Int), c.ob + at0 d.t (i : Int), ((1 : Int), (i : Int))) := by
 by_cases hj : j < c.s.length
 ·exact .inl ⟨hj, entS_l hj⟩
 ·refine .inr ⟨j - c.s.length, by omega, by omega, ?_⟩
  have := entS_r (c := c) (d := d) (j - c.s.length)
  rwa [show c.s.length + (j - c.s.length) = j from by omega] at this
theorem entS_inj {c d : Cat} (i j : Nat) (hi : i < c.s.length + d.s.length) (hj : j < c.s.length + d.s.length) (h : entS c d i = entS c d j) : i = j := by
 rcases entS_cases hi with ⟨_, e1⟩ | ⟨i', _, r1, e1⟩ <;> rcases entS_cases hj with ⟨_, e2⟩ | ⟨j', _, r2, e2⟩ <;> rw [e1, e2] at h <;> simp only [Prod.mk.injEq] at h <;> omega
theorem entsS_len (c d : Cat) (k : Nat) : (entsTo (entS c d) k).length = k := entsTo_len _ _
def uS (c d : Cat) (x : Nat) : Int × Int := if (x : Int) < c.ob then (0, at0 c.e (x : Int)) else (1, at0 d.e ((x : Int) - c.ob))
theorem uS_l {c d : Cat} {x : Nat} (h : (x : Int) < c.ob) : uS c d x = (0, at0 c.e (x : Int)) := if_pos h
theorem uS_r {c d : Cat} {x : Nat} (h : ¬ (x : Int) < c.ob) : uS c d x = (1, at0 d.e ((x : Int) - c.ob)) := if_neg h
def thS (c d : Cat) (f g : Int × Int) : Int × Int := (f.1, if f.1 = 0 then c.th f.2 g.2 else d.th f.2 g.2)
theorem sum_build {c d : Cat} (hS : ShapeP c) (gS : ShapeP d) : buildE (c.ob + d.ob) (entsTo (entS c d) (c.s.length + d.s.length)) (uS c d) (thS c d) = sumM c d := by
 have hn40 := hS.n40; have htl := hS.tl; have hel := hS.el; have hob0 := hS.ob0; have hob8 := hS.ob8; have hml := hS.ml
 have gn40 := gS.n40; have gtl := gS.tl; have gel := gS.el; have gob0 := gS.ob0; have gob8 := gS.ob8; have gml := gS.ml
 have hinj := entS_inj (c := c) (d := d)
 have hrl := rowsF_len c.m d.s.length c.s.length
 have hrow : ∀ i, i < c.s.length → row2 (sumM c d).m (i : Int) = row2 c.m (i : Int) ++ List.replicate d.s.length (-1) := fun i hi => by
  rw [show row2 (sumM c d).m (i : Int) = _ from growR_l (by omega) _, rowsF_row _ (by omega), if_pos hi]
 have hrow2 : ∀ i, i < d.s.length → row2 (sumM c d).m ((c.s.length + i : Nat) : Int) = smR c d i := fun i hi => by
  rw [show row2 (sumM c d).m ((c.s.length + i : Nat) : Int) = _ from growR_r (by omega) _ (by omega), hrl, hml, show c.s.length + i - c.s.length = i from by omega]
 refine buildE_to rfl (grow_len _ _ _) ((grow_len _ _ _).trans (by omega)) ((grow_len _ _ _).trans (by omega)) ((growR_len _ _ _).trans (by omega)) (fun i hi => ?_) (fun i hi => ?_) (fun i hi => ?_) (fun x hx => ?_) (fun i j hi hj => ?_)
 ·rcases entS_cases hi with ⟨hi', _⟩ | ⟨i', hi', rfl, _⟩
  ·rw [hrow i hi', List.length_append, List.length_replicate]
   have := (arrP hS (f := (i : Int)) (by omega) (by omega)).row; omega
  ·rw [hrow2 i' hi']; exact tabTo_len _ _
 ·rcases entS_cases hi with ⟨hi', e⟩ | ⟨i', hi', rfl, e⟩
  ·rw [e]; exact grow_l hi'
  ·rw [e, show at0 (sumM c d).s ((c.s.length + i' : Nat) : Int) = _ from grow_r (by omega) (by omega), show c.s.length + i' - c.s.length = i' from by omega]
   exact Int.add_comm _ _
 ·rcases entS_cases hi with ⟨hi', e⟩ | ⟨i', hi', rfl, e⟩
  ·rw [e]; exact grow_l (by omega)
  ·rw [e, show at0 (sumM c d).t ((c.s.length + i' : Nat) : Int) = _ from grow_r (by omega) (by omega), show c.s.length + i' - c.t.length = i' from by omega]
   exact Int.add_comm _ _
 ·by_cases h : (x : Int) < c.ob
  ·have i1 := hS.idn (x := (x : Int)) (by omega) h
   rw [uS_l h, show at0 (sumM c d).e (x : Int) = _ from grow_l (by omega)]
   refine (posE_int (fun i j hi hj he => hinj i j hi hj he) i1.1 (by omega) ?_).symm
   rw [entS_l (by omega), Int.toNat_of_nonneg i1.1, i1.2.2.1, i1.2.2.2]
  ·have i1 := gS.idn (x := (x : Int) - c.ob) (by omega) (by omega)
   rw [uS_r h, show at0 (sumM c d).e (x : Int) = _ from grow_r (by omega) (by omega)]
   show at0 d.e ((x - c.e.length : Nat) : Int) + c.s.length = _
   rw [show ((x - c.e.length : Nat) : Int) = (x : Int) - c.ob from by omega]
   obtain ⟨q, hq⟩ := Int.eq_ofNat_of_zero_le i1.1
   rw [hq] at i1 ⊢
   refine (posE_int (fun i j hi hj he => hinj i j hi hj he) (by omega) (by omega) ?_).symm
   rw [show ((q : Int) + c.s.length).toNat = c.s.length + q from by omega, entS_r, i1.2.2.1, i1.2.2.2]
   simp; omega
 ·unfold cellE
  rcases entS_cases hi with ⟨hi', e1⟩ | ⟨i', hi', rfl, e1⟩
  ·have s1 := at_lt2 hS.ta (k := i) (by omega)
   have hrl2 := (arrP hS (f := (i : Int)) (by omega) (by omega)).row
   rw [hrow i hi', e1]
   rcases entS_cases hj with ⟨hj', e2⟩ | ⟨j', hj', rfl, e2⟩
   ·rw [e2, app_l (by omega)]
    have e3 := th_none hS (f := (i : Int)) (g := (j : Int)) (by omega) (by omega) (by omega) (by omega)
    by_cases he : at0 c.t (i : Int) = at0 c.s (j : Int)
    ·have T := th_ends hS (f := (i : Int)) (g := (j : Int)) (by omega) (by omega) (by omega) (by omega) he
     rw [if_pos he]
     refine (posE_int (fun i j hi hj he => hinj i j hi hj he) T.1.1 (by have := T.1.2; omega) ?_).symm
     rw [entS_l (by have := T.1.2; omega), Int.toNat_of_nonneg T.1.1, T.2.1, T.2.2]
     rfl
    ·rw [if_neg he]; exact e3.2 he
   ·have s2 := at_lt2 gS.sa (k := j') hj'
    rw [e2, app_r (by omega), if_neg (by show ¬ at0 c.t (i : Int) = c.ob + at0 d.s (j' : Int); omega)]
    exact rep_at1 (by omega)
  ·have s1 := at_lt2 gS.ta (k := i') (by omega)
   rw [hrow2 i' hi', e1, show at0 (smR c d i') (j : Int) = _ from tabTo_at _ hj]
   rcases entS_cases hj with ⟨hj', e2⟩ | ⟨j', hj', rfl, e2⟩
   ·have s2 := at_lt2 hS.sa (k := j) hj'
    rw [e2, ← smX_t hj', if_neg (by show ¬ c.ob + at0 d.t (i' : Int) = at0 c.s (j : Int); omega)]
   ·rw [e2, ← smX_f]
    have e3 := th_none gS (f := (i' : Int)) (g := (j' : Int)) (by omega) (by omega) (by omega) (by omega)
    by_cases he : at0 d.t (i' : Int) = at0 d.s (j' : Int)
    ·have T := th_ends gS (f := (i' : Int)) (g := (j' : Int)) (by omega) (by omega) (by omega) (by omega) he
     rw [if_pos (by show c.ob + at0 d.t (i' : Int) = c.ob + at0 d.s (j' : Int); rw [he]), ← smC_t T.1.1]
     obtain ⟨q, hq⟩ := Int.eq_ofNat_of_zero_le T.1.1
     have T2 := T.2
     have hlt := T.1.2
     rw [hq] at T2 hlt
     have hq' : at0 (row2 d.m (i' : Int)) (j' : Int) = (q : Int) := hq
     rw [hq']
     refine (posE_int (fun i j hi hj he => hinj i j hi hj he) (by omega) (by omega) ?_).symm
     rw [show ((q : Int) + c.s.length).toNat = c.s.length + q from by omega, entS_r, T2.1, T2.2]
     show _ = (c.ob + at0 d.s (i' : Int), c.ob + at0 d.t (j' : Int), ((1 : Int), if (1 : Int) = 0 then _ else d.th (i' : Int) (j' : Int)))
     rw [if_neg (by decide), hq]
    ·have hn : at0 (row2 d.m (i' : Int)) (j' : Int) = -1 := e3.2 he
     rw [if_neg (by show ¬ c.ob + at0 d.t (i' : Int) = c.ob + at0 d.s (j' : Int); omega), ← smC_f (by omega)]; exact hn
theorem sum_made {c d : Cat} (h : fIsCategory c = true) (h' : fIsCategory d = true) : madeE (c.ob + d.ob) (entsTo (entS c d) (c.s.length + d.s.length)) (uS c d) (thS c d) = (fSumCategory c d).1 ∧ madeEc (α := Int × Int) (c.ob + d.ob) (entsTo (entS c d) (c.s.length + d.s.length)) = (fSumCategory c d).2 := by
 by_cases hf : FitP (sumM c d)
 ·have h2 : (grow c.s (smS c d) d.s.length).length ≤ 40 := hf.2
  rw [grow_len] at h2
  have hm := madeE_t (n := c.ob + d.ob) (es := entsTo (entS c d) (c.s.length + d.s.length)) (u := uS c d) (th := thS c d) hf.1 (by rw [entsTo_len]; exact h2)
  rw [sum_t h h' hf, hm.1, hm.2, sum_build (isCat_of h).toShapeP (isCat_of h').toShapeP]; exact ⟨rfl, rfl⟩
 ·have hm := madeE_f (n := c.ob + d.ob) (es := entsTo (entS c d) (c.s.length + d.s.length)) (u := uS c d) (th := thS c d) (fun hh => hf ⟨hh.1, by show (grow c.s (smS c d) d.s.length).length ≤ 40; rw [grow_len]; have := hh.2; rwa [entsTo_len] at this⟩)
  rw [sum_l h h' hf, hm.1, hm.2]; exact ⟨rfl, rfl⟩

set_option maxHeartbeats 1000000 in
set_option maxRecDepth 100000 in
theorem sumC1_any (w : World) (x : Nat) (B D : Nat) (v : Value) (c : Cat) (h : RdC w v c) (u : Value) (d : Cat) (e : RdC w u d) (hS : ShapeP c) (gS : ShapeP d) (hbB : BxV w B 29 v) (hbD : BxV w D 29 u) (x1 : (x : Int) < c.ob + d.ob) :
  Calls Try.prog 102 #[.int .i64 ((x : Int)), .pointer (some ⟨B, 0, none⟩), .pointer (some ⟨D, 0, none⟩)] w (RetV w (.agg #[.int .i64 (uS c d x).1, .int .i64 (uS c d x).2])) := by
 have h0 := h
 obtain ⟨va, vb, vc, vd, ve, vf, vg, vh, rfl, h1, h2, h3, h4, _⟩ := h.lists
 have e0 := e
 obtain ⟨ua, ub, uc, ud, ue, uf, ug, uh, rfl, e1, e2, e3, e4, _⟩ := e.lists
 have hn40 := hS.n40; have htl := hS.tl; have hel := hS.el; have hob0 := hS.ob0; have hob8 := hS.ob8; have hml := hS.ml
 have gn40 := gS.n40; have gtl := gS.tl; have gel := gS.el; have gob0 := gS.ob0; have gob8 := gS.ob8; have gml := gS.ml
 go_enter Try.func102, Try.ntmps102
 refine gc_enter (N := 24) rfl (look_cons (k := 0) rfl (look_cons (k := 1) rfl (look_cons (k := 2) rfl (look_nil _)))) ?_
 refine gc_sr fun K1 hK1 => ?_
 refine gop fun K3 hK3 => ?_
 refine go_alloc (z := (.agg #[.int .i64 0, .int .i64 0])) (cs := [.int .i64 0, .int .i64 0]) rfl rfl rfl (fun w => by kernel_rfl) rfl ?_
 intro B2
 refine hK3 _ _ ?_
 refine gnt (hK1 _ _ ?_)
 refine gc_seq fun K4 hK4 => ?_
 refine gc_sr fun K5 hK5 => ?_
 refine gm ?_
 refine gv (qtf Try.underlying29 (z := 0) (off := 0)) ?_
 refine gv (qt_loadRB hbB rfl rfl Try.underlying2 rfl rfl) ?_
 refine gv (qt_lss rfl rfl rfl) ?_
 refine gnt (hK5 _ _ ?_)
 refine gc_cond rfl (fun hc0 => ?_) (fun hc0 => ?_)
 ·try simp only [sA] at hc0
  refine gc_sr fun K6 hK6 => ?_
  refine gv (qtf Try.underlying29 (z := 0) (off := 3)) ?_
  refine gv (qt_loadRB hbB rfl rfl Try.underlying22 rfl rfl) ?_
  refine gm ?_
  refine gv (qti (fun w M => lenA_rd h3)) ?_
  refine gv (qtd (fun w M => mem_rd M h3)) ?_
  refine gv (qt_build rfl rfl bt_pairOf_int_int64) ?_
  refine gop fun K7 hK7 => ?_
  refine go_storeS (n := 0) rfl rfl rfl rfl (by kernel_rfl) rfl rfl rfl ?_
  refine hK7 _ _ ?_
  refine gnt (hK6 _ _ ?_)
  refine gc_ret ?_
  refine gk_then_ret ?_
  refine ret_S (n := 0) rfl rfl Try.underlying118 rfl (by kernel_rfl) rfl (fun w M => ?_)
  rw [uS_l hc0]; exact ⟨rfl, M.1⟩
 ·try simp only [sA] at hc0
  refine gc_skip ?_
  refine gk_then (hK4 _ _ ?_)
  refine gc_sr fun K8 hK8 => ?_
  refine gv (qtf Try.underlying29 (z := 0) (off := 3)) ?_
  refine gv (qt_loadRB hbD rfl rfl Try.underlying22 rfl rfl) ?_
  refine gm ?_
  refine gv (qtf Try.underlying29 (z := 0) (off := 0)) ?_
  refine gv (qt_loadRB hbB rfl rfl Try.underlying2 rfl rfl) ?_
  refine gv (qt_sub rfl rfl rfl (by omega)) ?_
  refine gv (qti (fun w M => lenA_rd e3)) ?_
  refine gv (qtd (fun w M => mem_rd M e3)) ?_
  refine gv (qt_build rfl rfl bt_pairOf_int_int64) ?_
  refine gop fun K9 hK9 => ?_
  refine go_storeS (n := 0) rfl rfl rfl rfl (by kernel_rfl) rfl rfl rfl ?_
  refine hK9 _ _ ?_
  refine gnt (hK8 _ _ ?_)
  refine gc_ret ?_
  refine ret_S (n := 0) rfl rfl Try.underlying118 rfl (by kernel_rfl) rfl (fun w M => ?_)
  rw [uS_r hc0]; exact ⟨rfl, M.1⟩

set_option maxHeartbeats 1000000 in
set_option maxRecDepth 100000 in
theorem sumC2_0 (w : World) (f2 g1 g2 : Int) (D E : Nat) (v : Value) (c : Cat) (h : RdC w v c) (u : Value) (d : Cat) (e : RdC w u d) (hS : ShapeP c) (gS : ShapeP d) (hbD : BxV w D 116 (.agg #[.slice (some ⟨E, 0, none⟩) 2 2])) (hbE : BxV w E 29 (.agg (v.cells ++ u.cells))) (a0 : 0 ≤ f2) (a1 : f2 < c.s.length) (b0 : 0 ≤ g2) (b1 : g2 < c.s.length) :
  Calls Try.prog 103 #[.agg #[.int .i64 0, .int .i64 f2], .agg #[.int .i64 g1, .int .i64 g2], .pointer (some ⟨D, 0, none⟩)] w (RetV w (.agg #[.int .i64 0, .int .i64 (c.th f2 g2)])) := by
 have h0 := h
 obtain ⟨va, vb, vc, vd, ve, vf, vg, vh, rfl, h1, h2, h3, h4, _⟩ := h.lists
 have e0 := e
 obtain ⟨ua, ub, uc, ud, ue, uf, ug, uh, rfl, e1, e2, e3, e4, _⟩ := e.lists
 have hbX : BxV w E 29 (.agg ([.int .i64 c.ob, .slice va c.s.length ve, .slice vb c.t.length vf, .slice vc c.e.length vg, .slice vd c.m.length vh, .int .i64 d.ob, .slice ua d.s.length ue, .slice ub d.t.length uf, .slice uc d.e.length ug, .slice ud d.m.length uh] : List Value).toArray) := hbE
 have hn40 := hS.n40; have htl := hS.tl; have hel := hS.el; have hob0 := hS.ob0; have hob8 := hS.ob8; have hml := hS.ml
 have gn40 := gS.n40; have gtl := gS.tl; have gel := gS.el; have gob0 := gS.ob0; have gob8 := gS.ob8; have gml := gS.ml
 have hG := arrP hS a0 a1
 have g3 := hG.fm; have g4 := hG.row
 go_enter Try.func103, Try.ntmps103
 refine gc_enter (N := 19) rfl (look_cons (k := 0) rfl (look_cons (k := 1) rfl (look_cons (k := 2) rfl (look_nil _)))) ?_
 refine gc_sr fun K1 hK1 => ?_
 refine gop fun K3 hK3 => ?_
 refine go_box rfl rfl rfl rfl rfl ?_
 intro B2
 refine hK3 _ _ ?_
 refine gop fun K5 hK5 => ?_
 refine go_box rfl rfl rfl rfl rfl ?_
 intro B4
 refine hK5 _ _ ?_
 refine gop fun K7 hK7 => ?_
 refine go_alloc (z := (.agg #[.int .i64 0, .int .i64 0])) (cs := [.int .i64 0, .int .i64 0]) rfl rfl rfl (fun w => by kernel_rfl) rfl ?_
 intro B6
 refine hK7 _ _ ?_
 refine gnt (hK1 _ _ ?_)
 refine gc_seq fun K8 hK8 => ?_
 try simp only [sL]
 refine ga_start _ (fun w M => mem_erase 2 (M)) ?_
 refine gav 0 rfl (qtf Try.underlying118 (z := 0) (off := 0)) ?_
 refine gav 1 rfl (qtl Try.underlying3 (n := 0)) ?_
 refine gav 2 rfl (qt_loadRB hbD rfl rfl Try.underlying116 rfl rfl) ?_
 refine gav 3 rfl (qtf Try.underlying118 (z := 0) (off := 0)) ?_
 refine gav 4 rfl (qtl Try.underlying3 (n := 0)) ?_
 refine gav 5 rfl (qt_indexC 0 rfl rfl rfl Try.underlying116 rfl (by decide)) ?_
 refine gav 6 rfl (qt_loadRP hbX (z := 5) rfl rfl Try.underlying29 rfl (by kernel_rfl) (by simp)) ?_
 refine gav 7 rfl (qtf Try.underlying118 (z := 0) (off := 1)) ?_
 refine gav 8 rfl (qtl Try.underlying2 (n := 0)) ?_
 refine gav 9 rfl (qtf Try.underlying118 (z := 0) (off := 1)) ?_
 refine gav 10 rfl (qtl Try.underlying2 (n := 1)) ?_
 refine gao 11 fun K9 hK9 => ?_
 refine go_q rfl rfl (qt_call rfl Try.func59 rfl (by decide) rfl (fun w M => then_any w _ _ _ _ (mem_rdC M h0) (by first | assumption | omega) (by first | assumption | omega) (by first | assumption | omega) (by first | assumption | omega))) ?_
 refine hK9 _ _ (fun w M => (mem_erase 2 (mem_take 3 M) :)) ?_
 refine gav 12 rfl (qt_build rfl rfl bt_pairOf_int_int64) ?_
 refine gao 13 fun K10 hK10 => ?_
 refine go_storeS (n := 2) rfl rfl rfl rfl (by kernel_rfl) rfl rfl rfl ?_
 refine hK10 _ _ (fun w M => (mem_erase 2 (mem_take 3 M) :)) ?_
 refine ga_done (by kernel_rfl) ?_
 refine gk_then (hK8 _ _ ?_)
 refine gc_ret ?_
 refine ret_S (n := 2) rfl rfl Try.underlying118 rfl (by kernel_rfl) rfl (fun w M => ?_)
 exact ⟨rfl, M.1⟩

set_option maxHeartbeats 1000000 in
set_option maxRecDepth 100000 in
theorem sumC2_1 (w : World) (f2 g1 g2 : Int) (D E : Nat) (v : Value) (c : Cat) (h : RdC w v c) (u : Value) (d : Cat) (e : RdC w u d) (hS : ShapeP c) (gS : ShapeP d) (hbD : BxV w D 116 (.agg #[.slice (some ⟨E, 0, none⟩) 2 2])) (hbE : BxV w E 29 (.agg (v.cells ++ u.cells))) (a0 : 0 ≤ f2) (a1 : f2 < d.s.length) (b0 : 0 ≤ g2) (b1 : g2 < d.s.length) :
  Calls Try.prog 103 #[.agg #[.int .i64 1, .int .i64 f2], .agg #[.int .i64 g1, .int .i64 g2], .pointer (some ⟨D, 0, none⟩)] w (RetV w (.agg #[.int .i64 1, .int .i64 (d.th f2 g2)])) := by
 have h0 := h
 obtain ⟨va, vb, vc, vd, ve, vf, vg, vh, rfl, h1, h2, h3, h4, _⟩ := h.lists
 have e0 := e
 obtain ⟨ua, ub, uc, ud, ue, uf, ug, uh, rfl, e1, e2, e3, e4, _⟩ := e.lists
 have hbX : BxV w E 29 (.agg ([.int .i64 c.ob, .slice va c.s.length ve, .slice vb c.t.length vf, .slice vc c.e.length vg, .slice vd c.m.length vh, .int .i64 d.ob, .slice ua d.s.length ue, .slice ub d.t.length uf, .slice uc d.e.length ug, .slice ud d.m.length uh] : List Value).toArray) := hbE
 have hn40 := hS.n40; have htl := hS.tl; have hel := hS.el; have hob0 := hS.ob0; have hob8 := hS.ob8; have hml := hS.ml
 have gn40 := gS.n40; have gtl := gS.tl; have gel := gS.el; have gob0 := gS.ob0; have gob8 := gS.ob8; have gml := gS.ml
 have hG := arrP gS a0 a1
 have g3 := hG.fm; have g4 := hG.row
 go_enter Try.func103, Try.ntmps103
 refine gc_enter (N := 19) rfl (look_cons (k := 0) rfl (look_cons (k := 1) rfl (look_cons (k := 2) rfl (look_nil _)))) ?_
 refine gc_sr fun K1 hK1 => ?_
 refine gop fun K3 hK3 => ?_
 refine go_box rfl rfl rfl rfl rfl ?_
 intro B2
 refine hK3 _ _ ?_
 refine gop fun K5 hK5 => ?_
 refine go_box rfl rfl rfl rfl rfl ?_
 intro B4
 refine hK5 _ _ ?_
 refine gop fun K7 hK7 => ?_
 refine go_alloc (z := (.agg #[.int .i64 0, .int .i64 0])) (cs := [.int .i64 0, .int .i64 0]) rfl rfl rfl (fun w => by kernel_rfl) rfl ?_
 intro B6
 refine hK7 _ _ ?_
 refine gnt (hK1 _ _ ?_)
 refine gc_seq fun K8 hK8 => ?_
 try simp only [sL]
 refine ga_start _ (fun w M => mem_erase 2 (M)) ?_
 refine gav 0 rfl (qtf Try.underlying118 (z := 0) (off := 0)) ?_
 refine gav 1 rfl (qtl Try.underlying3 (n := 0)) ?_
 refine gav 2 rfl (qt_loadRB hbD rfl rfl Try.underlying116 rfl rfl) ?_
 refine gav 3 rfl (qtf Try.underlying118 (z := 0) (off := 0)) ?_
 refine gav 4 rfl (qtl Try.underlying3 (n := 0)) ?_
 refine gav 5 rfl (qt_indexC 1 rfl rfl rfl Try.underlying116 rfl (by decide)) ?_
 refine gav 6 rfl (qt_loadRP hbX (z := 5) rfl rfl Try.underlying29 rfl (by kernel_rfl) (by simp)) ?_
 refine gav 7 rfl (qtf Try.underlying118 (z := 0) (off := 1)) ?_
 refine gav 8 rfl (qtl Try.underlying2 (n := 0)) ?_
 refine gav 9 rfl (qtf Try.underlying118 (z := 0) (off := 1)) ?_
 refine gav 10 rfl (qtl Try.underlying2 (n := 1)) ?_
 refine gao 11 fun K9 hK9 => ?_
 refine go_q rfl rfl (qt_call rfl Try.func59 rfl (by decide) rfl (fun w M => then_any w _ _ _ _ (mem_rdC M e0) (by first | assumption | omega) (by first | assumption | omega) (by first | assumption | omega) (by first | assumption | omega))) ?_
 refine hK9 _ _ (fun w M => (mem_erase 2 (mem_take 3 M) :)) ?_
 refine gav 12 rfl (qt_build rfl rfl bt_pairOf_int_int64) ?_
 refine gao 13 fun K10 hK10 => ?_
 refine go_storeS (n := 2) rfl rfl rfl rfl (by kernel_rfl) rfl rfl rfl ?_
 refine hK10 _ _ (fun w M => (mem_erase 2 (mem_take 3 M) :)) ?_
 refine ga_done (by kernel_rfl) ?_
 refine gk_then (hK8 _ _ ?_)
 refine gc_ret ?_
 refine ret_S (n := 2) rfl rfl Try.underlying118 rfl (by kernel_rfl) rfl (fun w M => ?_)
 exact ⟨rfl, M.1⟩


theorem sum_ht {c d : Cat} (hS : ShapeP c) (gS : ShapeP d) {f : FuncId} {ct : List Value} {w' : World} {i j : Nat} (hi : i < c.s.length + d.s.length) (hj : j < c.s.length + d.s.length) (hfg : (entS c d i).2.1 = (entS c d j).1)
  (h0 : ∀ i j : Nat, i < c.s.length → j < c.s.length → Calls Try.prog f ([Value.agg #[.int .i64 0, .int .i64 (i : Int)], Value.agg #[.int .i64 0, .int .i64 (j : Int)]] ++ ct).toArray w' (RetV w' (.agg #[.int .i64 0, .int .i64 (c.th (i : Int) (j : Int))])))
  (h1 : ∀ i j : Nat, i < d.s.length → j < d.s.length → Calls Try.prog f ([Value.agg #[.int .i64 1, .int .i64 (i : Int)], Value.agg #[.int .i64 1, .int .i64 (j : Int)]] ++ ct).toArray w' (RetV w' (.agg #[.int .i64 1, .int .i64 (d.th (i : Int) (j : Int))]))) :
  Calls Try.prog f ([Value.agg #[.int .i64 (entS c d i).2.2.1, .int .i64 (entS c d i).2.2.2], Value.agg #[.int .i64 (entS c d j).2.2.1, .int .i64 (entS c d j).2.2.2]] ++ ct).toArray w' (RetV w' (.agg #[.int .i64 (thS c d (entS c d i).2.2 (entS c d j).2.2).1, .int .i64 (thS c d (entS c d i).2.2 (entS c d j).2.2).2])) := by
 have htl := hS.tl; have gtl := gS.tl
 rcases entS_cases hi with ⟨hi', e1⟩ | ⟨i', hi', rfl, e1⟩ <;> rcases entS_cases hj with ⟨hj', e2⟩ | ⟨j', hj', rfl, e2⟩ <;> rw [e1, e2] at hfg ⊢
 ·exact h0 i j hi' hj'
 ·have s1 := at_lt2 hS.ta (k := i) (by omega); have s2 := at_lt2 gS.sa hj'
  exfalso; have hfg : at0 c.t (i : Int) = c.ob + at0 d.s (j' : Int) := hfg; omega
 ·have s1 := at_lt2 gS.ta (k := i') (by omega); have s2 := at_lt2 hS.sa hj'
  exfalso; have hfg : c.ob + at0 d.t (i' : Int) = at0 c.s (j : Int) := hfg; omega
 ·exact h1 i' j' hi' hj'

set_option maxHeartbeats 1000000 in
set_option maxRecDepth 100000 in
theorem impl_SumCategory (w : World) (v : Value) (c : Cat) (u : Value) (d : Cat) (h : RdC w v c) (e : RdC w u d) :
  Calls Try.prog 47 #[v, u] w (RetCI w (fSumCategory c d).1 (fSumCategory c d).2) := by
 have h0 := h
 obtain ⟨va, vb, vc, vd, ve, vf, vg, vh, rfl, h1, h2, h3, h4, _⟩ := h.lists
 have e0 := e
 obtain ⟨ua, ub, uc, ud, ue, uf, ug, uh, rfl, e1, e2, e3, e4, _⟩ := e.lists
 go_enter Try.func47, Try.ntmps47
 refine gc_enter (N := 80) rfl (look_cons (k := 0) rfl (look_cons (k := 1) rfl (look_nil _))) ?_
 refine gc_sr fun K1 hK1 => ?_
 refine gop fun K3 hK3 => ?_
 refine go_box rfl rfl rfl rfl rfl ?_
 intro B2
 refine hK3 _ _ ?_
 refine gop fun K5 hK5 => ?_
 refine go_box rfl rfl rfl rfl rfl ?_
 intro B4
 refine hK5 _ _ ?_
 refine gop fun K7 hK7 => ?_
 refine go_alloc (z := (.agg #[.int .i64 0, .slice none 0 0, .slice none 0 0, .slice none 0 0, .slice none 0 0])) (cs := [.int .i64 0, .slice none 0 0, .slice none 0 0, .slice none 0 0, .slice none 0 0]) rfl rfl rfl (fun w => by kernel_rfl) rfl ?_
 intro B6
 refine hK7 _ _ ?_
 refine gas ?_
 refine gnt (hK1 _ _ ?_)
 refine gc_sr fun K8 hK8 => ?_
 refine gv (qts Try.underlying29 (n := 0)) ?_
 refine gv (qts Try.underlying29 (n := 1)) ?_
 refine gop fun K10 hK10 => ?_
 refine go_callCCI rfl rfl rfl Try.func101 rfl (by decide) rfl (fun w M => readTwo_any w _ _ (mem_rdC M h0) _ _ (mem_rdC M e0)) ?_
 intro ca9 cb9 cc9 cd9 ce9 cf9 cg9 ch9 cu9 da9 db9 dc9 dd9 de9 df9 dg9 dh9 du9
 refine hK10 _ _ ?_
 refine gm ?_
 refine gv (qt_extract rfl rfl rfl) ?_
 refine gv (qt_extract rfl rfl rfl) ?_
 refine gv (qt_extract rfl rfl rfl) ?_
 refine gop fun K12 hK12 => ?_
 refine go_alloc (z := (.agg #[.int .i64 0, .slice none 0 0, .slice none 0 0, .slice none 0 0, .slice none 0 0])) (cs := [.int .i64 0, .slice none 0 0, .slice none 0 0, .slice none 0 0, .slice none 0 0]) rfl rfl rfl (fun w => by kernel_rfl) rfl ?_
 intro B11
 refine hK12 _ _ ?_
 refine gop fun K14 hK14 => ?_
 refine go_alloc (z := (.agg #[.int .i64 0, .slice none 0 0, .slice none 0 0, .slice none 0 0, .slice none 0 0])) (cs := [.int .i64 0, .slice none 0 0, .slice none 0 0, .slice none 0 0, .slice none 0 0]) rfl rfl rfl (fun w => by kernel_rfl) rfl ?_
 intro B13
 refine hK14 _ _ ?_
 refine gop fun K15 hK15 => ?_
 refine go_storeS (n := 11) rfl rfl rfl rfl (by kernel_rfl) rfl rfl rfl ?_
 refine hK15 _ _ ?_
 refine gop fun K16 hK16 => ?_
 refine go_storeS (n := 12) rfl rfl rfl rfl (by kernel_rfl) rfl rfl rfl ?_
 refine hK16 _ _ ?_
 refine gas ?_
 refine gnt (hK8 _ _ ?_)
 refine gc_seq fun K17 hK17 => ?_
 refine gc_sr fun K18 hK18 => ?_
 refine gm ?_
 refine gv (qt_neq rfl rfl rfl) ?_
 refine gnt (hK18 _ _ ?_)
 refine gc_cond rfl (fun hc0 => ?_) (fun hc0 => ?_)
 ·try simp only [sA] at hc0
  refine gc_sr fun K19 hK19 => ?_
  refine gv (qt_build rfl rfl bt0_Category) ?_
  refine gm ?_
  refine gop fun K20 hK20 => ?_
  refine go_storeS (n := 2) rfl rfl rfl rfl (by kernel_rfl) rfl rfl rfl ?_
  refine hK20 _ _ ?_
  refine gas ?_
  refine gnt (hK19 _ _ ?_)
  refine gc_ret ?_
  refine gk_then_ret ?_
  refine ret_SI (n := 2) rfl rfl rfl Try.underlying29 rfl (by kernel_rfl) rfl (fun w M => ?_)
  have hn := twoErr_n hc0; rw [hn.2, sum_n hn.1]; exact ⟨_, rfl, ownC_zero _ _, M.1⟩
 ·try simp only [sA] at hc0
  refine gc_skip ?_
  refine gk_then (hK17 _ _ ?_)
  refine gc_seq fun K21 hK21 => ?_
  have hT := twoErr_0 hc0
  have hcc := two_c hc0
  simp only [hcc.1, hcc.2]
  have hS := (isCat_of hT.1).toShapeP
  have gS := (isCat_of hT.2).toShapeP
  have hn40 := hS.n40; have htl := hS.tl; have hel := hS.el; have hob0 := hS.ob0; have hob8 := hS.ob8; have hml := hS.ml
  have gn40 := gS.n40; have gtl := gS.tl; have gel := gS.el; have gob0 := gS.ob0; have gob8 := gS.ob8; have gml := gS.ml
  refine gc_region ?_
  refine gv (qts Try.underlying29 (n := 11)) ?_
  refine gv (qts Try.underlying29 (n := 12)) ?_
  refine gop fun K23 hK23 => ?_
  refine go_sliceC2 rfl rfl rfl rfl rfl Try.underlying116 ?_
  intro B22
  refine hK23 _ _ ?_
  refine gop fun K25 hK25 => ?_
  refine go_alloc (z := (.slice none 0 0)) (cs := [.slice none 0 0]) rfl rfl rfl (fun w => by kernel_rfl) rfl ?_
  intro B24
  refine hK25 _ _ ?_
  refine gop fun K26 hK26 => ?_
  refine go_storeB (n := 14) rfl rfl rfl rfl (by kernel_rfl) rfl rfl rfl (by first | decide | simp) ?_
  refine hK26 _ _ ?_
  refine gnt (hK21 _ _ ?_)
  refine gc_sr fun K27 hK27 => ?_
  refine gv (qtf Try.underlying29 (z := 0) (off := 0)) ?_
  refine gv (qtl Try.underlying2 (n := 11)) ?_
  refine gv (qtf Try.underlying29 (z := 0) (off := 0)) ?_
  refine gv (qtl Try.underlying2 (n := 12)) ?_
  refine gv (qt_add rfl rfl rfl (by omega)) ?_
  refine gv (qt_makeF rfl rfl) ?_
  refine gv (qt_makeF rfl rfl) ?_
  refine gv (qt_build rfl rfl bt023_plan_pairOf_int_int64) ?_
  refine gop fun K29 hK29 => ?_
  refine go_alloc (z := (.agg #[.int .i64 0, .slice none 0 0, .nilFunc, .nilFunc])) (cs := [.int .i64 0, .slice none 0 0, .nilFunc, .nilFunc]) rfl rfl rfl (fun w => by kernel_rfl) rfl ?_
  intro B28
  refine hK29 _ _ ?_
  refine gop fun K30 hK30 => ?_
  refine go_storeS (n := 15) rfl rfl rfl rfl (by kernel_rfl) rfl rfl rfl ?_
  refine hK30 _ _ ?_
  refine gnt (hK27 _ _ ?_)
  refine gc_seq fun K31 hK31 => ?_
  refine gc_sr fun K32 hK32 => ?_
  refine gv (qtl Try.underlying116 (n := 14)) ?_
  refine gv (qt_lenC rfl rfl ulEC) ?_
  refine gm ?_
  refine gnt (hK32 _ _ ?_)
  refine gc_block ?_
  refine gc_nilE lab_part ?_
  try simp only [sL]
  refine gc_loopT ([(0, _), (1, _), (2, _), (3, _), (4, _), (5, _), (6, _), (7, _), (8, _), (9, _), (10, _), (24, _), (38, _), (39, _)] : Env) (fun s : Nat × (Option Addr) × Nat => (fun (k : Nat) (a : Option Addr) (q : Nat) => (([(40, .int .i64 (k : Int))] : Env), ([(15, bxI B28 123 [.int .i64 (c.ob + d.ob), .slice a (entsTo (entS c d) (offS c d k)).length q, .func (.func 102) #[] #[.pointer (some ⟨B11, 0, none⟩), .pointer (some ⟨B13, 0, none⟩)], .func (.func 103) #[] #[.pointer (some ⟨B24, 0, none⟩)]]), (16, ownEI lab_part (.slice a (entsTo (entS c d) (offS c d k)).length q) (entsTo (entS c d) (offS c d k)))] : List (Nat × Itm)), k ≤ 2, 2 - k)) s.1 s.2.1 s.2.2) (0, _, _) (by repeat first | exact sub_nil | refine sub_cons rfl ?_) rfl (Nat.zero_le _) ?_
  rintro ⟨k, a, q⟩ hinv KL33 hKL33
  simp only [sU, sL] at hinv hKL33 ⊢
  have hk := hinv
  refine gc_sr fun K34 hK34 => ?_
  refine gv (qt_lss rfl rfl rfl) ?_
  refine gnt (hK34 _ _ ?_)
  refine gc_seq fun K35 hK35 => ?_
  refine gc_cond rfl (fun hc1 => ?_) (fun hc1 => ?_)
  ·try simp only [sA] at hc1
   refine gc_skip ?_
   refine gk_then (hK35 _ _ ?_)
   refine gc_seq fun K36 hK36 => ?_
   refine gc_block ?_
   refine gc_seq fun K37 hK37 => ?_
   rcases (show k = 0 ∨ k = 1 by omega) with hk0 | hk1
   ·skip
    have hcp := offS_0 (c := c) (d := d) hk0
    have hmk : (k : Int) * c.ob = 0 := by subst hk0; simp
    have hcn : (catS c d k).s.length = c.s.length := by rw [hcp.2.2]
    have ho1 := hcp.1; have ho2 := hcp.2.1
    refine gc_region ?_
    refine gm ?_
    refine gv (qt_indexC 0 rfl rfl rfl Try.underlying116 (by omega) (by decide)) ?_
    refine gv (qt_loadP (n := 13) (z := 5) rfl rfl Try.underlying29 rfl (by kernel_rfl) rfl (by first | decide | exact Nat.le_refl _ | simp)) ?_
    refine gop fun K39 hK39 => ?_
    refine go_alloc (z := (.agg #[.int .i64 0, .slice none 0 0, .slice none 0 0, .slice none 0 0, .slice none 0 0])) (cs := [.int .i64 0, .slice none 0 0, .slice none 0 0, .slice none 0 0, .slice none 0 0]) rfl rfl rfl (fun w => by kernel_rfl) rfl ?_
    intro B38
    refine hK39 _ _ ?_
    refine gas ?_
    refine gop fun K40 hK40 => ?_
    refine go_storeS (n := 17) rfl rfl rfl rfl (by kernel_rfl) rfl rfl rfl ?_
    refine hK40 _ _ ?_
    refine gnt (hK37 _ _ ?_)
    refine gc_sr fun K41 hK41 => ?_
    refine gm ?_
    refine gv (qtf Try.underlying29 (z := 0) (off := 0)) ?_
    refine gv (qtl Try.underlying2 (n := 11)) ?_
    refine gv (qt_mul rfl rfl rfl (by omega)) ?_
    refine gas ?_
    refine gnt (hK41 _ _ ?_)
    refine gc_sr fun K42 hK42 => ?_
    refine gv (qts Try.underlying29 (n := 17)) ?_
    refine g_q (.free rfl) rfl rfl (qt_call rfl Try.func60 rfl (by decide) rfl (fun w M => arrows_any w _ _ (rdC_mk ((mem_own1 (n := 3) M rfl).rd) ((mem_own1 (n := 4) M rfl).rd) ((mem_own1 (n := 5) M rfl).rd) (mem_rdU (n := 6) M rfl)))) ?_
    refine gm ?_
    refine gnt (hK42 _ _ ?_)
    refine gc_block ?_
    try simp only [sL]
    refine gc_loopT ([(0, _), (1, _), (2, _), (3, _), (4, _), (5, _), (6, _), (7, _), (8, _), (9, _), (10, _), (11, _), (12, _), (13, _), (24, _), (38, _), (39, _), (40, _), (41, _), (50, _)] : Env) (fun s : Nat × (Option Addr) × Nat => (fun (l : Nat) (a : Option Addr) (q : Nat) => (([(51, .int .i64 (l : Int))] : Env), ([(15, bxI B28 123 [.int .i64 (c.ob + d.ob), .slice a (entsTo (entS c d) (offS c d k + l)).length q, .func (.func 102) #[] #[.pointer (some ⟨B11, 0, none⟩), .pointer (some ⟨B13, 0, none⟩)], .func (.func 103) #[] #[.pointer (some ⟨B24, 0, none⟩)]]), (16, ownEI lab_part (.slice a (entsTo (entS c d) (offS c d k + l)).length q) (entsTo (entS c d) (offS c d k + l)))] : List (Nat × Itm)), l ≤ (catS c d k).s.length, (catS c d k).s.length - l)) s.1 s.2.1 s.2.2) (0, _, _) (by repeat first | exact sub_nil | refine sub_cons rfl ?_) rfl (Nat.zero_le _) ?_
    rintro ⟨l, a, q⟩ hinv KL43 hKL43
    simp only [sU, sL] at hinv hKL43 ⊢
    have hl0 := hinv
    have hel2 := entsS_len c d (offS c d k + l)
    refine gc_sr fun K44 hK44 => ?_
    refine gv (qt_lss rfl rfl rfl) ?_
    refine gnt (hK44 _ _ ?_)
    refine gc_seq fun K45 hK45 => ?_
    refine gc_cond rfl (fun hc2 => ?_) (fun hc2 => ?_)
    ·try simp only [sA] at hc2
     refine gc_skip ?_
     refine gk_then (hK45 _ _ ?_)
     refine gc_seq fun K46 hK46 => ?_
     refine gc_block ?_
     refine gc_sr fun K47 hK47 => ?_
     refine gm ?_
     refine gas ?_
     refine gnt (hK47 _ _ ?_)
     refine gc_seq fun K48 hK48 => ?_
     first | (have i1 := at_lt2 hS.sa (k := l) (by omega); have j1 := at_lt2 hS.ta (k := l) (by omega); skip) | skip
     first | (have i2 := at_lt2 gS.sa (k := l) (by omega); have j2 := at_lt2 gS.ta (k := l) (by omega); skip) | skip
     try simp only [sL]
     refine ga_start _ (fun w M => M) ?_
     refine gav 0 rfl (qt_move rfl rfl) ?_
     refine gav 1 rfl (qtf Try.underlying29 (z := 0) (off := 1)) ?_
     refine gav 2 rfl (qtl Try.underlying22 (n := 17)) ?_
     refine gav 3 rfl (qt_move rfl rfl) ?_
     refine gav 4 rfl (qti (fun w M => lenA_own1 (n := 3) rfl M)) ?_
     refine gav 5 rfl (qtd (fun w M => (mem_own1 (n := 3) M rfl).rd)) ?_
     refine gav 6 rfl (qt_add rfl rfl rfl (by omega)) ?_
     refine gav 7 rfl (qt_move rfl rfl) ?_
     refine gav 8 rfl (qtf Try.underlying29 (z := 0) (off := 2)) ?_
     refine gav 9 rfl (qtl Try.underlying22 (n := 17)) ?_
     refine gav 10 rfl (qt_move rfl rfl) ?_
     refine gav 11 rfl (qti (fun w M => lenA_own1 (n := 4) rfl M)) ?_
     refine gav 12 rfl (qtd (fun w M => (mem_own1 (n := 4) M rfl).rd)) ?_
     refine gav 13 rfl (qt_add rfl rfl rfl (by omega)) ?_
     refine gav 14 rfl (qt_build rfl rfl bt_arrowEnds) ?_
     refine gao 15 fun K50 hK50 => ?_
     refine go_alloc (z := (.agg #[.int .i64 0, .int .i64 0])) (cs := [.int .i64 0, .int .i64 0]) rfl rfl rfl (fun w => by kernel_rfl) rfl ?_
     intro B49
     refine hK50 _ _ (fun w M => (mem_take 18 M :)) ?_
     refine gao 16 fun K51 hK51 => ?_
     refine go_storeS (n := 18) rfl rfl rfl rfl (by kernel_rfl) rfl rfl rfl ?_
     refine hK51 _ _ (fun w M => (mem_take 18 M :)) ?_
     refine ga_done (by kernel_rfl) ?_
     refine gk_then (hK48 _ _ ?_)
     refine gc_region ?_
     refine gv (qts Try.underlying83 (n := 18)) ?_
     refine gm ?_
     refine gm ?_
     refine gv (qt_build rfl rfl bt_pairOf_int_int64) ?_
     refine gop fun K53 hK53 => ?_
     refine go_two (n := 15) (m := 16) (m' := 15) (σ := Option Addr × Nat) rfl rfl rfl Try.func104 rfl (by decide) rfl rfl rfl (fun z => rfl) (fun R w M => add_part _ w R _ _ _ _ ((k : Int), (l : Int)) _ _ _ _ _ (by omega) M) ?_
     intro ⟨sa52, sq52⟩
     refine hK53 _ _ ?_
     refine g_nil ?_
     refine gk_block ?_
     refine gk_then (hK46 _ _ ?_)
     refine gc_region ?_
     refine gv (qt_add rfl rfl rfl (by omega)) ?_
     refine gm ?_
     refine g_nil ?_
     first | rw [entS_0 hk0 (by omega), entsTo_succ] | rw [entS_1 hk1, entsTo_succ]
     refine gk_then (gk_take 18 ?_)
     refine gk_sub ?hs_54 (hKL43 (l + 1, _, _) ?hi_54 ?hm_54)
     case hs_54 => repeat first | exact sub_nil | refine sub_cons rfl ?_
     case hi_54 => omega
     case hm_54 => omega
    ·try simp only [sA] at hc2
     refine gc_exit ?_
     refine gk_then_exit ?_
     refine gk_then_exit ?_
     refine gk_block_hit ?_
     refine gk_block ?_
     refine gk_then (hK36 _ _ ?_)
     refine gc_region ?_
     refine gv (qt_add rfl rfl rfl (by omega)) ?_
     refine gm ?_
     refine g_nil ?_
     rw [show offS c d k + l = offS c d (k + 1) from by omega]
     refine gk_then (gk_take 17 ?_)
     refine gk_sub ?hs_55 (hKL33 (k + 1, _, _) ?hi_55 ?hm_55)
     case hs_55 => repeat first | exact sub_nil | refine sub_cons rfl ?_
     case hi_55 => omega
     case hm_55 => omega
   ·skip
    have hcp := offS_1 (c := c) (d := d) hk1
    have hmk : (k : Int) * c.ob = c.ob := by subst hk1; simp
    have hcn : (catS c d k).s.length = d.s.length := by rw [hcp.2.2]
    have ho1 := hcp.1; have ho2 := hcp.2.1
    refine gc_region ?_
    refine gm ?_
    refine gv (qt_indexC 1 rfl rfl rfl Try.underlying116 (by omega) (by decide)) ?_
    refine gv (qt_loadP (n := 13) (z := 5) rfl rfl Try.underlying29 rfl (by kernel_rfl) rfl (by first | decide | exact Nat.le_refl _ | simp)) ?_
    refine gop fun K57 hK57 => ?_
    refine go_alloc (z := (.agg #[.int .i64 0, .slice none 0 0, .slice none 0 0, .slice none 0 0, .slice none 0 0])) (cs := [.int .i64 0, .slice none 0 0, .slice none 0 0, .slice none 0 0, .slice none 0 0]) rfl rfl rfl (fun w => by kernel_rfl) rfl ?_
    intro B56
    refine hK57 _ _ ?_
    refine gas ?_
    refine gop fun K58 hK58 => ?_
    refine go_storeS (n := 17) rfl rfl rfl rfl (by kernel_rfl) rfl rfl rfl ?_
    refine hK58 _ _ ?_
    refine gnt (hK37 _ _ ?_)
    refine gc_sr fun K59 hK59 => ?_
    refine gm ?_
    refine gv (qtf Try.underlying29 (z := 0) (off := 0)) ?_
    refine gv (qtl Try.underlying2 (n := 11)) ?_
    refine gv (qt_mul rfl rfl rfl (by omega)) ?_
    refine gas ?_
    refine gnt (hK59 _ _ ?_)
    refine gc_sr fun K60 hK60 => ?_
    refine gv (qts Try.underlying29 (n := 17)) ?_
    refine g_q (.free rfl) rfl rfl (qt_call rfl Try.func60 rfl (by decide) rfl (fun w M => arrows_any w _ _ (rdC_mk ((mem_own1 (n := 7) M rfl).rd) ((mem_own1 (n := 8) M rfl).rd) ((mem_own1 (n := 9) M rfl).rd) (mem_rdU (n := 10) M rfl)))) ?_
    refine gm ?_
    refine gnt (hK60 _ _ ?_)
    refine gc_block ?_
    try simp only [sL]
    refine gc_loopT ([(0, _), (1, _), (2, _), (3, _), (4, _), (5, _), (6, _), (7, _), (8, _), (9, _), (10, _), (11, _), (12, _), (13, _), (24, _), (38, _), (39, _), (40, _), (41, _), (50, _)] : Env) (fun s : Nat × (Option Addr) × Nat => (fun (l : Nat) (a : Option Addr) (q : Nat) => (([(51, .int .i64 (l : Int))] : Env), ([(15, bxI B28 123 [.int .i64 (c.ob + d.ob), .slice a (entsTo (entS c d) (offS c d k + l)).length q, .func (.func 102) #[] #[.pointer (some ⟨B11, 0, none⟩), .pointer (some ⟨B13, 0, none⟩)], .func (.func 103) #[] #[.pointer (some ⟨B24, 0, none⟩)]]), (16, ownEI lab_part (.slice a (entsTo (entS c d) (offS c d k + l)).length q) (entsTo (entS c d) (offS c d k + l)))] : List (Nat × Itm)), l ≤ (catS c d k).s.length, (catS c d k).s.length - l)) s.1 s.2.1 s.2.2) (0, _, _) (by repeat first | exact sub_nil | refine sub_cons rfl ?_) rfl (Nat.zero_le _) ?_
    rintro ⟨l, a, q⟩ hinv KL61 hKL61
    simp only [sU, sL] at hinv hKL61 ⊢
    have hl0 := hinv
    have hel2 := entsS_len c d (offS c d k + l)
    refine gc_sr fun K62 hK62 => ?_
    refine gv (qt_lss rfl rfl rfl) ?_
    refine gnt (hK62 _ _ ?_)
    refine gc_seq fun K63 hK63 => ?_
    refine gc_cond rfl (fun hc3 => ?_) (fun hc3 => ?_)
    ·try simp only [sA] at hc3
     refine gc_skip ?_
     refine gk_then (hK63 _ _ ?_)
     refine gc_seq fun K64 hK64 => ?_
     refine gc_block ?_
     refine gc_sr fun K65 hK65 => ?_
     refine gm ?_
     refine gas ?_
     refine gnt (hK65 _ _ ?_)
     refine gc_seq fun K66 hK66 => ?_
     first | (have i1 := at_lt2 hS.sa (k := l) (by omega); have j1 := at_lt2 hS.ta (k := l) (by omega); skip) | skip
     first | (have i2 := at_lt2 gS.sa (k := l) (by omega); have j2 := at_lt2 gS.ta (k := l) (by omega); skip) | skip
     try simp only [sL]
     refine ga_start _ (fun w M => M) ?_
     refine gav 0 rfl (qt_move rfl rfl) ?_
     refine gav 1 rfl (qtf Try.underlying29 (z := 0) (off := 1)) ?_
     refine gav 2 rfl (qtl Try.underlying22 (n := 17)) ?_
     refine gav 3 rfl (qt_move rfl rfl) ?_
     refine gav 4 rfl (qti (fun w M => lenA_own1 (n := 7) rfl M)) ?_
     refine gav 5 rfl (qtd (fun w M => (mem_own1 (n := 7) M rfl).rd)) ?_
     refine gav 6 rfl (qt_add rfl rfl rfl (by omega)) ?_
     refine gav 7 rfl (qt_move rfl rfl) ?_
     refine gav 8 rfl (qtf Try.underlying29 (z := 0) (off := 2)) ?_
     refine gav 9 rfl (qtl Try.underlying22 (n := 17)) ?_
     refine gav 10 rfl (qt_move rfl rfl) ?_
     refine gav 11 rfl (qti (fun w M => lenA_own1 (n := 8) rfl M)) ?_
     refine gav 12 rfl (qtd (fun w M => (mem_own1 (n := 8) M rfl).rd)) ?_
     refine gav 13 rfl (qt_add rfl rfl rfl (by omega)) ?_
     refine gav 14 rfl (qt_build rfl rfl bt_arrowEnds) ?_
     refine gao 15 fun K68 hK68 => ?_
     refine go_alloc (z := (.agg #[.int .i64 0, .int .i64 0])) (cs := [.int .i64 0, .int .i64 0]) rfl rfl rfl (fun w => by kernel_rfl) rfl ?_
     intro B67
     refine hK68 _ _ (fun w M => (mem_take 18 M :)) ?_
     refine gao 16 fun K69 hK69 => ?_
     refine go_storeS (n := 18) rfl rfl rfl rfl (by kernel_rfl) rfl rfl rfl ?_
     refine hK69 _ _ (fun w M => (mem_take 18 M :)) ?_
     refine ga_done (by kernel_rfl) ?_
     refine gk_then (hK66 _ _ ?_)
     refine gc_region ?_
     refine gv (qts Try.underlying83 (n := 18)) ?_
     refine gm ?_
     refine gm ?_
     refine gv (qt_build rfl rfl bt_pairOf_int_int64) ?_
     refine gop fun K71 hK71 => ?_
     refine go_two (n := 15) (m := 16) (m' := 15) (σ := Option Addr × Nat) rfl rfl rfl Try.func104 rfl (by decide) rfl rfl rfl (fun z => rfl) (fun R w M => add_part _ w R _ _ _ _ ((k : Int), (l : Int)) _ _ _ _ _ (by omega) M) ?_
     intro ⟨sa70, sq70⟩
     refine hK71 _ _ ?_
     refine g_nil ?_
     refine gk_block ?_
     refine gk_then (hK64 _ _ ?_)
     refine gc_region ?_
     refine gv (qt_add rfl rfl rfl (by omega)) ?_
     refine gm ?_
     refine g_nil ?_
     first | rw [entS_0 hk0 (by omega), entsTo_succ] | rw [entS_1 hk1, entsTo_succ]
     refine gk_then (gk_take 18 ?_)
     refine gk_sub ?hs_72 (hKL61 (l + 1, _, _) ?hi_72 ?hm_72)
     case hs_72 => repeat first | exact sub_nil | refine sub_cons rfl ?_
     case hi_72 => omega
     case hm_72 => omega
    ·try simp only [sA] at hc3
     refine gc_exit ?_
     refine gk_then_exit ?_
     refine gk_then_exit ?_
     refine gk_block_hit ?_
     refine gk_block ?_
     refine gk_then (hK36 _ _ ?_)
     refine gc_region ?_
     refine gv (qt_add rfl rfl rfl (by omega)) ?_
     refine gm ?_
     refine g_nil ?_
     rw [show offS c d k + l = offS c d (k + 1) from by omega]
     refine gk_then (gk_take 17 ?_)
     refine gk_sub ?hs_73 (hKL33 (k + 1, _, _) ?hi_73 ?hm_73)
     case hs_73 => repeat first | exact sub_nil | refine sub_cons rfl ?_
     case hi_73 => omega
     case hm_73 => omega
  ·try simp only [sA] at hc1
   refine gc_exit ?_
   refine gk_then_exit ?_
   refine gk_then_exit ?_
   refine gk_block_hit ?_
   refine gk_then (hK31 _ _ ?_)
   refine gc_seq fun K74 hK74 => ?_
   have hk2 : k = 2 := by omega
   subst hk2
   simp only [show offS c d 2 = c.s.length + d.s.length from rfl]
   refine gc_region ?_
   refine gv (qts Try.underlying123 (n := 15)) ?_
   refine gop fun K76 hK76 => ?_
   refine go_callCI rfl rfl rfl Try.func105 rfl (by decide) rfl (fun w M => build_part w (c.ob + d.ob) _ (entsTo (entS c d) (c.s.length + d.s.length)) (mem_ownE (n := 16) M rfl) (entsTo_nodup entS_inj) (by omega) _ _ (uS c d) (⟨_, Try.func102, rfl, by decide⟩) (fun w' hb x hx => sumC1_any w' x _ _ _ c (rdC_below hb (rdC_mk ((mem_own1 (n := 3) M rfl).rd) ((mem_own1 (n := 4) M rfl).rd) ((mem_own1 (n := 5) M rfl).rd) (mem_rdU (n := 6) M rfl))) _ d (rdC_below hb (rdC_mk ((mem_own1 (n := 7) M rfl).rd) ((mem_own1 (n := 8) M rfl).rd) ((mem_own1 (n := 9) M rfl).rd) (mem_rdU (n := 10) M rfl))) hS gS (bxV_below hb (bxV_of (n := 11) M rfl)) (bxV_below hb (bxV_of (n := 12) M rfl)) hx) _ _ (thS c d) (⟨_, Try.func103, rfl, by decide⟩) (fun w' hb f hf g hg hfg => by obtain ⟨i, hi, rfl⟩ := entsTo_mem.1 hf; obtain ⟨j, hj, rfl⟩ := entsTo_mem.1 hg; exact sum_ht hS gS hi hj hfg (fun i j hi hj => sumC2_0 w' (i : Int) 0 (j : Int) _ _ _ c (rdC_below hb (rdC_mk ((mem_own1 (n := 3) M rfl).rd) ((mem_own1 (n := 4) M rfl).rd) ((mem_own1 (n := 5) M rfl).rd) (mem_rdU (n := 6) M rfl))) _ d (rdC_below hb (rdC_mk ((mem_own1 (n := 7) M rfl).rd) ((mem_own1 (n := 8) M rfl).rd) ((mem_own1 (n := 9) M rfl).rd) (mem_rdU (n := 10) M rfl))) hS gS (bxV_below hb (bxV_of (n := 14) M rfl)) (bxV_below hb (bxV_of (n := 13) M rfl)) (by omega) (by omega) (by omega) (by omega)) (fun i j hi hj => sumC2_1 w' (i : Int) 1 (j : Int) _ _ _ c (rdC_below hb (rdC_mk ((mem_own1 (n := 3) M rfl).rd) ((mem_own1 (n := 4) M rfl).rd) ((mem_own1 (n := 5) M rfl).rd) (mem_rdU (n := 6) M rfl))) _ d (rdC_below hb (rdC_mk ((mem_own1 (n := 7) M rfl).rd) ((mem_own1 (n := 8) M rfl).rd) ((mem_own1 (n := 9) M rfl).rd) (mem_rdU (n := 10) M rfl))) hS gS (bxV_below hb (bxV_of (n := 14) M rfl)) (bxV_below hb (bxV_of (n := 13) M rfl)) (by omega) (by omega) (by omega) (by omega)))) ?_
   intro ca75 cb75 cc75 cd75 ce75 cf75 cg75 ch75 cu75
   refine hK76 _ _ ?_
   refine gv (qt_extract rfl rfl rfl) ?_
   refine gv (qt_extract rfl rfl rfl) ?_
   refine gop fun K77 hK77 => ?_
   refine go_storeS (n := 2) rfl rfl rfl rfl (by kernel_rfl) rfl rfl rfl ?_
   refine hK77 _ _ ?_
   refine gas ?_
   refine gnt (hK74 _ _ ?_)
   refine gc_ret ?_
   refine ret_SI (n := 2) rfl rfl rfl Try.underlying29 rfl (by kernel_rfl) rfl (fun w M => ?_)
   have hm := sum_made hT.1 hT.2
   exact retCI_eq hm.1 hm.2 ⟨_, rfl, ownC_star (mem_pick (n := 20) (mem_pick (n := 20) (mem_pick (n := 20) (mem_pick (n := 20) (M) rfl) rfl) rfl) rfl).2, M.1⟩


theorem bound_SumCategory (c d : Cat) : mzC (fSumCategory c d).1 ≤ 1152921504606846 := by
 by_cases h : fIsCategory c = true ∧ fIsCategory d = true
 ·by_cases hf : FitP (sumM c d)
  ·have hS := (isCat_of h.1).toShapeP; have gS := (isCat_of h.2).toShapeP
   have hn40 := hS.n40; have htl := hS.tl; have hel := hS.el; have hob0 := hS.ob0; have hob8 := hS.ob8; have hml := hS.ml
   have gob0 := gS.ob0; have gob8 := gS.ob8; have hrl := rowsF_len c.m d.s.length c.s.length
   rw [sum_t h.1 h.2 hf]
   have h2 : (grow c.s (smS c d) d.s.length).length ≤ 40 := hf.2
   rw [grow_len] at h2
   refine mz_small (show (grow _ _ _).length ≤ 40 by rw [grow_len]; exact h2) (show (grow _ _ _).length ≤ 40 by rw [grow_len]; omega) (show (grow _ _ _).length ≤ 40 by rw [grow_len]; omega) (show (growR _ _ _).length ≤ 40 by rw [growR_len]; omega) fun i hi => ?_
   have hi : i < (growR (rowsF c.m d.s.length c.s.length) (smR c d) d.s.length).length := hi
   rw [growR_len] at hi
   show (row2 (growR (rowsF c.m d.s.length c.s.length) (smR c d) d.s.length) (i : Int)).length ≤ 40
   by_cases hlt : i < c.s.length
   ·rw [growR_l (by omega), rowsF_row _ (by omega), if_pos hlt, List.length_append, List.length_replicate]
    have := (arrP hS (f := (i : Int)) (by omega) (by omega)).row; omega
   ·rw [growR_r (by omega) _ (by omega)]
    show (tabTo _ _).length ≤ 40
    rw [tabTo_len]; exact h2
  ·rw [sum_l h.1 h.2 hf]; show mzC cat0 ≤ _; decide
 ·rw [sum_n h]; show mzC cat0 ≤ _; decide

end Go.Proofs.Ytpppoipaabofgab
