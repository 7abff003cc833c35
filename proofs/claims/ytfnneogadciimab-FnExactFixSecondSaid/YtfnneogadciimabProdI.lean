
/- The product of two categories: the program's. -/
import Derived.Test.YtfnneogadciimabShort
import Derived.Test.YtfnneogadciimabProd
import Derived.Test.YtfnneogadciimabPlanP
set_option linter.unusedSimpArgs false
set_option linter.unusedVariables false
set_option linter.unusedSectionVars false
namespace Go.Proofs.Ytfnneogadciimab
open Go.RowKit


def entP (c d : Cat) (a b : Nat) : Ent (Int × Int) := (pdS c d a b, pdT c d a b, ((a : Int), (b : Int)))
theorem entP_def (c d : Cat) (a b : Nat) : (pdS c d a b, pdT c d a b, ((a : Int), (b : Int))) = entP c d a b := rfl
theorem entP_inj {c d : Cat} {n m : Nat} (a b a' b' : Nat) (_ : a < n) (_ : b < m) (_ : a' < n) (_ : b' < m) (h : entP c d a b = entP c d a' b') : a = a' ∧ b = b' := by
 simp only [entP, Prod.mk.injEq] at h; omega
theorem entP_len (c d : Cat) (m k l : Nat) : (ents2 (entP c d) m k l).length = m * k + l := ents2_len _ _ _ _
def uP (c d : Cat) (x : Nat) : Int × Int := (at0 c.e ((x : Int) / d.ob), at0 d.e ((x : Int) % d.ob))
def thP (c d : Cat) (f g : Int × Int) : Int × Int := (c.th f.1 g.1, d.th f.2 g.2)
theorem div_rng {x n m : Int} (h0 : 0 ≤ x) (h1 : x < n * m) (hm : 0 < m) : (0 ≤ x / m ∧ x / m < n) ∧ 0 ≤ x % m ∧ x % m < m :=
 ⟨⟨Int.ediv_nonneg h0 (by omega), Int.ediv_lt_of_lt_mul hm h1⟩, Int.emod_nonneg _ (by omega), Int.emod_lt_of_pos _ hm⟩
theorem prd_pos {x a b : Int} (h0 : 0 ≤ x) (h1 : x < a * b) (hb : 0 ≤ b) : 0 < b := by
 rcases Int.lt_or_eq_of_le hb with h | h
 ·exact h
 ·subst h; rw [Int.mul_zero] at h1; omega
theorem prd_build {c d : Cat} (hS : ShapeP c) (gS : ShapeP d) : buildE (c.ob * d.ob) (ents2 (entP c d) d.s.length c.s.length 0) (uP c d) (thP c d) = prodM c d := by
 have hn40 := hS.n40; have htl := hS.tl; have hel := hS.el; have hob0 := hS.ob0; have hob8 := hS.ob8; have hml := hS.ml
 have gn40 := gS.n40; have gtl := gS.tl; have gel := gS.el; have gob0 := gS.ob0; have gob8 := gS.ob8; have gml := gS.ml
 have hinj := entP_inj (c := c) (d := d) (n := c.s.length) (m := d.s.length)
 have hmul : (c.ob * d.ob).toNat = d.ob.toNat * c.ob.toNat := by
  obtain ⟨x, hx⟩ := Int.eq_ofNat_of_zero_le hob0
  obtain ⟨y, hy⟩ := Int.eq_ofNat_of_zero_le gob0
  rw [hx, hy, ← Int.natCast_mul]; simp only [Int.toNat_natCast]; exact Nat.mul_comm _ _
 refine buildE_to (k := d.s.length * c.s.length + 0) rfl (tab2_len _ _ _ _) (tab2_len _ _ _ _) ((tab2_len _ _ _ _).trans (by rw [hmul, Nat.add_zero])) (rows2_len _ _ _ _) (fun i hi => ?_) (fun i hi => tab2_at _ (by simpa using hi)) (fun i hi => tab2_at _ (by simpa using hi)) (fun x hx => ?_) (fun i j hi hj => ?_)
 ·rw [show row2 (prodM c d).m (i : Int) = _ from rows2_at _ (by simpa using hi)]; exact tab2_len _ _ _ _
 ·have hx0 : (x : Int) < c.ob * d.ob := by omega
  have hpos := prd_pos (Int.natCast_nonneg x) hx0 gob0
  have hr := div_rng (Int.natCast_nonneg x) hx0 hpos
  have i1 := hS.idn hr.1.1 hr.1.2
  have i2 := gS.idn hr.2.1 hr.2.2
  have hd : ((x / d.ob.toNat : Nat) : Int) = (x : Int) / d.ob := by rw [Int.natCast_ediv, Int.toNat_of_nonneg gob0]
  have hm : ((x % d.ob.toNat : Nat) : Int) = (x : Int) % d.ob := by rw [Int.natCast_emod, Int.toNat_of_nonneg gob0]
  rw [show at0 (prodM c d).e (x : Int) = _ from tab2_at _ (by rw [← hmul]; exact hx)]
  show pdE c d _ _ = posE (ents2 _ _ _ 0) _
  unfold pdE
  rw [hd, hm]
  refine (posE_2 hinj i1.1 (by omega) i2.1 (by omega) ?_).symm
  unfold entP pdS pdT
  rw [Int.toNat_of_nonneg i1.1, Int.toNat_of_nonneg i2.1, i1.2.2.1, i1.2.2.2, i2.2.2.1, i2.2.2.2]
  have hxe : (x : Int) / d.ob * d.ob + (x : Int) % d.ob = x := Int.ediv_mul_add_emod _ _
  rw [hxe]; rfl
 ·have hi := (show i < d.s.length * c.s.length from by simpa using hi)
  have hj := (show j < d.s.length * c.s.length from by simpa using hj)
  have a1 := grid_divlt hi; have b1 := grid_modlt hi; have f1 := grid_divlt hj; have g1 := grid_modlt hj
  rw [show row2 (prodM c d).m (i : Int) = _ from rows2_at _ hi]
  rw [show at0 (pdR c d (i / d.s.length) (i % d.s.length)) (j : Int) = _ from tab2_at _ hj]
  generalize i / d.s.length = a at a1 ⊢
  generalize i % d.s.length = b at b1 ⊢
  generalize j / d.s.length = f at f1 ⊢
  generalize j % d.s.length = g at g1 ⊢
  show _ = cellE (ents2 _ _ _ 0) _ _ _
  unfold cellE
  have s1 := at_lt hS.ta (k := a) (by omega); have s2 := at_lt hS.sa f1; have s3 := at_lt gS.ta (k := b) (by omega); have s4 := at_lt gS.sa g1
  have e1 := th_none hS (f := (a : Int)) (g := (f : Int)) (by omega) (by omega) (by omega) (by omega)
  have e2 := th_none gS (f := (b : Int)) (g := (g : Int)) (by omega) (by omega) (by omega) (by omega)
  by_cases he : at0 c.t (a : Int) = at0 c.s (f : Int) ∧ at0 d.t (b : Int) = at0 d.s (g : Int)
  ·have T1 := th_ends hS (f := (a : Int)) (g := (f : Int)) (by omega) (by omega) (by omega) (by omega) he.1
   have T2 := th_ends gS (f := (b : Int)) (g := (g : Int)) (by omega) (by omega) (by omega) (by omega) he.2
   rw [if_pos (show (entP c d a b).2.1 = (entP c d f g).1 from by show pdT c d a b = pdS c d f g; unfold pdT pdS; rw [he.1, he.2]), ← pdM_t T1.1.1 T2.1.1]
   refine (posE_2 hinj T1.1.1 (by omega) T2.1.1 (by omega) ?_).symm
   unfold entP pdS pdT
   rw [Int.toNat_of_nonneg T1.1.1, Int.toNat_of_nonneg T2.1.1, T1.2.1, T1.2.2, T2.2.1, T2.2.2]
   rfl
  ·rw [if_neg (show ¬ (entP c d a b).2.1 = (entP c d f g).1 from fun h => he (mix_inj s3 s4 h))]
   refine (pdM_f fun hh => he ⟨?_, ?_⟩).symm
   ·exact Classical.not_not.1 fun hn => by have h1 := e1.2 hn; have h2 := hh.1; omega
   ·exact Classical.not_not.1 fun hn => by have h1 := e2.2 hn; have h2 := hh.2; omega
theorem prd_made {c d : Cat} (h : fIsCategory c = true) (h' : fIsCategory d = true) : madeE (c.ob * d.ob) (ents2 (entP c d) d.s.length c.s.length 0) (uP c d) (thP c d) = (fProductCategory c d).1 ∧ madeEc (c.ob * d.ob) (ents2 (entP c d) d.s.length c.s.length 0) = (fProductCategory c d).2 := by
 by_cases hf : FitP (prodM c d)
 ·have h2 : (tab2 (pdS c d) d.s.length c.s.length 0).length ≤ 40 := hf.2
  rw [tab2_len] at h2
  have hm := madeE_t (n := c.ob * d.ob) (es := ents2 (entP c d) d.s.length c.s.length 0) (u := uP c d) (th := thP c d) hf.1 (by rw [ents2_len]; exact h2)
  rw [prd_t h h' hf, hm.1, hm.2, prd_build (isCat_of h).toShapeP (isCat_of h').toShapeP]; exact ⟨rfl, rfl⟩
 ·have hm := madeE_f (n := c.ob * d.ob) (es := ents2 (entP c d) d.s.length c.s.length 0) (u := uP c d) (th := thP c d) (fun hh => hf ⟨hh.1, by show (tab2 (pdS c d) d.s.length c.s.length 0).length ≤ 40; rw [tab2_len, ← entP_len c d]; exact hh.2⟩)
  rw [prd_l h h' hf, hm.1, hm.2]; exact ⟨rfl, rfl⟩

set_option maxHeartbeats 1000000 in
set_option maxRecDepth 100000 in
theorem prdC1_any (w : World) (x : Int) (B D : Nat) (v : Value) (c : Cat) (h : RdC w v c) (u : Value) (d : Cat) (e : RdC w u d) (hS : ShapeP c) (gS : ShapeP d) (hbB : BxV w B 30 v) (hbD : BxV w D 30 u) (x0 : 0 ≤ x) (x1 : x < c.ob * d.ob) :
  Calls Try.prog 169 #[.int .i64 x, .pointer (some ⟨B, 0, none⟩), .pointer (some ⟨D, 0, none⟩)] w (RetV w (.agg #[.int .i64 (at0 c.e (x / d.ob)), .int .i64 (at0 d.e (x % d.ob))])) := by
 have h0 := h
 obtain ⟨va, vb, vc, vd, ve, vf, vg, vh, rfl, h1, h2, h3, h4, _⟩ := h.lists
 have e0 := e
 obtain ⟨ua, ub, uc, ud, ue, uf, ug, uh, rfl, e1, e2, e3, e4, _⟩ := e.lists
 have hn40 := hS.n40; have htl := hS.tl; have hel := hS.el; have hob0 := hS.ob0; have hob8 := hS.ob8; have hml := hS.ml
 have gn40 := gS.n40; have gtl := gS.tl; have gel := gS.el; have gob0 := gS.ob0; have gob8 := gS.ob8; have gml := gS.ml
 have hpos := prd_pos x0 x1 gob0
 have hr := div_rng x0 x1 hpos
 have r1 := hr.1.1; have r2 := hr.1.2; have r3 := hr.2.1; have r4 := hr.2.2
 have hob := mul_bd (x := c.ob) (a := 9) (b := d.ob) (by omega) (by omega) (by omega)
 go_enter Try.func169, Try.ntmps169
 refine gc_enter (N := 22) rfl (look_cons (k := 0) rfl (look_cons (k := 1) rfl (look_cons (k := 2) rfl (look_nil _)))) ?_
 refine gc_sr fun K1 hK1 => ?_
 refine gop fun K3 hK3 => ?_
 refine go_alloc (z := (.agg #[.int .i64 0, .int .i64 0])) (cs := [.int .i64 0, .int .i64 0]) rfl rfl rfl (fun w => by kernel_rfl) rfl ?_
 intro B2
 refine hK3 _ _ ?_
 refine gnt (hK1 _ _ ?_)
 refine gc_seq fun K4 hK4 => ?_
 try simp only [sL]
 refine ga_start _ (fun w M => mem_erase 0 (M)) ?_
 refine gav 0 rfl (qtf Try.underlying30 (z := 0) (off := 3)) ?_
 refine gav 1 rfl (qt_loadRB hbB rfl rfl Try.underlying22 rfl rfl) ?_
 refine gav 2 rfl (qt_move rfl rfl) ?_
 refine gav 3 rfl (qtf Try.underlying30 (z := 0) (off := 0)) ?_
 refine gav 4 rfl (qt_loadRB hbD rfl rfl Try.underlying2 rfl rfl) ?_
 refine gav 5 rfl (qt_quo rfl rfl rfl (by omega) (by omega) (by omega)) ?_
 refine gav 6 rfl (qti (fun w M => lenA_rd h3)) ?_
 refine gav 7 rfl (qtd (fun w M => mem_rd M h3)) ?_
 refine gav 8 rfl (qtf Try.underlying30 (z := 0) (off := 3)) ?_
 refine gav 9 rfl (qt_loadRB hbD rfl rfl Try.underlying22 rfl rfl) ?_
 refine gav 10 rfl (qt_move rfl rfl) ?_
 refine gav 11 rfl (qtf Try.underlying30 (z := 0) (off := 0)) ?_
 refine gav 12 rfl (qt_loadRB hbD rfl rfl Try.underlying2 rfl rfl) ?_
 refine gav 13 rfl (qt_rem rfl rfl rfl (by omega) (by omega) (by omega)) ?_
 refine gav 14 rfl (qti (fun w M => lenA_rd e3)) ?_
 refine gav 15 rfl (qtd (fun w M => mem_rd M e3)) ?_
 refine gav 16 rfl (qt_build rfl rfl bt_arrowPair) ?_
 refine gao 17 fun K5 hK5 => ?_
 refine go_storeS (n := 0) rfl rfl rfl rfl (by kernel_rfl) rfl rfl rfl ?_
 refine hK5 _ _ (fun w M => (mem_erase 0 (mem_take 1 M) :)) ?_
 refine ga_done (by kernel_rfl) ?_
 refine gk_then (hK4 _ _ ?_)
 refine gc_ret ?_
 refine ret_S (n := 0) rfl rfl Try.underlying91 rfl (by kernel_rfl) rfl (fun w M => ?_)
 exact ⟨rfl, M.1⟩

set_option maxHeartbeats 1000000 in
set_option maxRecDepth 100000 in
theorem prdC2_any (w : World) (f1 f2 g1 g2 : Int) (B D : Nat) (v : Value) (c : Cat) (h : RdC w v c) (u : Value) (d : Cat) (e : RdC w u d) (hS : ShapeP c) (gS : ShapeP d) (hbB : BxV w B 30 v) (hbD : BxV w D 30 u) (a0 : 0 ≤ f1) (a1 : f1 < c.s.length) (b0 : 0 ≤ f2) (b1 : f2 < d.s.length) (p0 : 0 ≤ g1) (p1 : g1 < c.s.length) (q0 : 0 ≤ g2) (q1 : g2 < d.s.length) :
  Calls Try.prog 170 #[.agg #[.int .i64 f1, .int .i64 f2], .agg #[.int .i64 g1, .int .i64 g2], .pointer (some ⟨B, 0, none⟩), .pointer (some ⟨D, 0, none⟩)] w (RetV w (.agg #[.int .i64 (c.th f1 g1), .int .i64 (d.th f2 g2)])) := by
 have h0 := h
 obtain ⟨va, vb, vc, vd, ve, vf, vg, vh, rfl, h1, h2, h3, h4, _⟩ := h.lists
 have e0 := e
 obtain ⟨ua, ub, uc, ud, ue, uf, ug, uh, rfl, e1, e2, e3, e4, _⟩ := e.lists
 have hG := arrP hS a0 a1
 have g3 := hG.fm; have g4 := hG.row
 have kG := arrP gS b0 b1
 have k3 := kG.fm; have k4 := kG.row
 go_enter Try.func170, Try.ntmps170
 refine gc_enter (N := 20) rfl (look_cons (k := 0) rfl (look_cons (k := 1) rfl (look_cons (k := 2) rfl (look_cons (k := 3) rfl (look_nil _))))) ?_
 refine gc_sr fun K1 hK1 => ?_
 refine gop fun K3 hK3 => ?_
 refine go_box rfl rfl rfl rfl rfl ?_
 intro B2
 refine hK3 _ _ ?_
 refine gop fun K5 hK5 => ?_
 refine go_box rfl rfl rfl rfl rfl ?_
 intro B4
 refine hK5 _ _ ?_
 refine gop fun K7 hK7 => ?_
 refine go_alloc (z := (.agg #[.int .i64 0, .int .i64 0])) (cs := [.int .i64 0, .int .i64 0]) rfl rfl rfl (fun w => by kernel_rfl) rfl ?_
 intro B6
 refine hK7 _ _ ?_
 refine gnt (hK1 _ _ ?_)
 refine gc_seq fun K8 hK8 => ?_
 try simp only [sL]
 refine ga_start _ (fun w M => mem_erase 2 (M)) ?_
 refine gav 0 rfl (qt_loadRS hbB rfl rfl Try.underlying30 rfl (by kernel_rfl)) ?_
 refine gav 1 rfl (qtf Try.underlying91 (z := 0) (off := 0)) ?_
 refine gav 2 rfl (qtl Try.underlying2 (n := 0)) ?_
 refine gav 3 rfl (qtf Try.underlying91 (z := 0) (off := 0)) ?_
 refine gav 4 rfl (qtl Try.underlying2 (n := 1)) ?_
 refine gav 6 rfl (qt_loadRS hbD rfl rfl Try.underlying30 rfl (by kernel_rfl)) ?_
 refine gav 7 rfl (qtf Try.underlying91 (z := 0) (off := 1)) ?_
 refine gav 8 rfl (qtl Try.underlying2 (n := 0)) ?_
 refine gav 9 rfl (qtf Try.underlying91 (z := 0) (off := 1)) ?_
 refine gav 10 rfl (qtl Try.underlying2 (n := 1)) ?_
 refine gao 5 fun K9 hK9 => ?_
 refine go_q rfl rfl (qt_call rfl Try.func171 rfl (by decide) rfl (fun w M => then_any w _ _ _ _ (mem_rdC M h0) (by first | assumption | omega) (by first | assumption | omega) (by first | assumption | omega) (by first | assumption | omega))) ?_
 refine hK9 _ _ (fun w M => (mem_erase 2 (mem_take 3 M) :)) ?_
 refine gao 11 fun K10 hK10 => ?_
 refine go_q rfl rfl (qt_call rfl Try.func171 rfl (by decide) rfl (fun w M => then_any w _ _ _ _ (mem_rdC M e0) (by first | assumption | omega) (by first | assumption | omega) (by first | assumption | omega) (by first | assumption | omega))) ?_
 refine hK10 _ _ (fun w M => (mem_erase 2 (mem_take 3 M) :)) ?_
 refine gav 12 rfl (qt_build rfl rfl bt_arrowPair) ?_
 refine gao 13 fun K11 hK11 => ?_
 refine go_storeS (n := 2) rfl rfl rfl rfl (by kernel_rfl) rfl rfl rfl ?_
 refine hK11 _ _ (fun w M => (mem_erase 2 (mem_take 3 M) :)) ?_
 refine ga_done (by kernel_rfl) ?_
 refine gk_then (hK8 _ _ ?_)
 refine gc_ret ?_
 refine ret_S (n := 2) rfl rfl Try.underlying91 rfl (by kernel_rfl) rfl (fun w M => ?_)
 exact ⟨rfl, M.1⟩

set_option maxHeartbeats 1000000 in
set_option maxRecDepth 100000 in
theorem impl_ProductCategory (w : World) (v : Value) (c : Cat) (u : Value) (d : Cat) (h : RdC w v c) (e : RdC w u d) :
  Calls Try.prog 146 #[v, u] w (RetCI w (fProductCategory c d).1 (fProductCategory c d).2) := by
 have h0 := h
 obtain ⟨va, vb, vc, vd, ve, vf, vg, vh, rfl, h1, h2, h3, h4, _⟩ := h.lists
 have e0 := e
 obtain ⟨ua, ub, uc, ud, ue, uf, ug, uh, rfl, e1, e2, e3, e4, _⟩ := e.lists
 go_enter Try.func146, Try.ntmps146
 refine gc_enter (N := 84) rfl (look_cons (k := 0) rfl (look_cons (k := 1) rfl (look_nil _))) ?_
 refine gc_sr fun K1 hK1 => ?_
 refine gop fun K3 hK3 => ?_
 refine go_box rfl rfl rfl rfl rfl ?_
 intro B2
 refine hK3 _ _ ?_
 refine gop fun K5 hK5 => ?_
 refine go_box rfl rfl rfl rfl rfl ?_
 intro B4
 refine hK5 _ _ ?_
 refine gop fun K7 hK7 => ?_
 refine go_alloc (z := (.agg #[.int .i64 0, .slice none 0 0, .slice none 0 0, .slice none 0 0, .slice none 0 0])) (cs := [.int .i64 0, .slice none 0 0, .slice none 0 0, .slice none 0 0, .slice none 0 0]) rfl rfl rfl (fun w => by kernel_rfl) rfl ?_
 intro B6
 refine hK7 _ _ ?_
 refine gas ?_
 refine gnt (hK1 _ _ ?_)
 refine gc_sr fun K8 hK8 => ?_
 refine gv (qts Try.underlying30 (n := 0)) ?_
 refine gv (qts Try.underlying30 (n := 1)) ?_
 refine gop fun K10 hK10 => ?_
 refine go_callCCI rfl rfl rfl Try.func115 rfl (by decide) rfl (fun w M => readTwo_any w _ _ (mem_rdC M h0) _ _ (mem_rdC M e0)) ?_
 intro ca9 cb9 cc9 cd9 ce9 cf9 cg9 ch9 cu9 da9 db9 dc9 dd9 de9 df9 dg9 dh9 du9
 refine hK10 _ _ ?_
 refine gm ?_
 refine gv (qt_extract rfl rfl rfl) ?_
 refine gv (qt_extract rfl rfl rfl) ?_
 refine gv (qt_extract rfl rfl rfl) ?_
 refine gop fun K12 hK12 => ?_
 refine go_alloc (z := (.agg #[.int .i64 0, .slice none 0 0, .slice none 0 0, .slice none 0 0, .slice none 0 0])) (cs := [.int .i64 0, .slice none 0 0, .slice none 0 0, .slice none 0 0, .slice none 0 0]) rfl rfl rfl (fun w => by kernel_rfl) rfl ?_
 intro B11
 refine hK12 _ _ ?_
 refine gop fun K14 hK14 => ?_
 refine go_alloc (z := (.agg #[.int .i64 0, .slice none 0 0, .slice none 0 0, .slice none 0 0, .slice none 0 0])) (cs := [.int .i64 0, .slice none 0 0, .slice none 0 0, .slice none 0 0, .slice none 0 0]) rfl rfl rfl (fun w => by kernel_rfl) rfl ?_
 intro B13
 refine hK14 _ _ ?_
 refine gop fun K15 hK15 => ?_
 refine go_storeS (n := 11) rfl rfl rfl rfl (by kernel_rfl) rfl rfl rfl ?_
 refine hK15 _ _ ?_
 refine gop fun K16 hK16 => ?_
 refine go_storeS (n := 12) rfl rfl rfl rfl (by kernel_rfl) rfl rfl rfl ?_
 refine hK16 _ _ ?_
 refine gas ?_
 refine gnt (hK8 _ _ ?_)
 refine gc_seq fun K17 hK17 => ?_
 refine gc_sr fun K18 hK18 => ?_
 refine gm ?_
 refine gv (qt_neq rfl rfl rfl) ?_
 refine gnt (hK18 _ _ ?_)
 refine gc_cond rfl (fun hc0 => ?_) (fun hc0 => ?_)
 ·try simp only [sA] at hc0
  refine gc_sr fun K19 hK19 => ?_
  refine gv (qt_build rfl rfl bt0_Category) ?_
  refine gm ?_
  refine gop fun K20 hK20 => ?_
  refine go_storeS (n := 2) rfl rfl rfl rfl (by kernel_rfl) rfl rfl rfl ?_
  refine hK20 _ _ ?_
  refine gas ?_
  refine gnt (hK19 _ _ ?_)
  refine gc_ret ?_
  refine gk_then_ret ?_
  refine ret_SI (n := 2) rfl rfl rfl Try.underlying30 rfl (by kernel_rfl) rfl (fun w M => ?_)
  have hn := twoErr_n hc0; rw [hn.2, prd_n hn.1]; exact ⟨_, rfl, ownC_zero _ _, M.1⟩
 ·try simp only [sA] at hc0
  refine gc_skip ?_
  refine gk_then (hK17 _ _ ?_)
  refine gc_seq fun K21 hK21 => ?_
  have hT := twoErr_0 hc0
  have hcc := two_c hc0
  simp only [hcc.1, hcc.2]
  have hS := (isCat_of hT.1).toShapeP
  have gS := (isCat_of hT.2).toShapeP
  have hn40 := hS.n40; have htl := hS.tl; have hel := hS.el; have hob0 := hS.ob0; have hob8 := hS.ob8; have hml := hS.ml
  have gn40 := gS.n40; have gtl := gS.tl; have gel := gS.el; have gob0 := gS.ob0; have gob8 := gS.ob8; have gml := gS.ml
  have hob := mul_bd (x := c.ob) (a := 9) (b := d.ob) (by omega) (by omega) (by omega)
  refine gc_region ?_
  refine gv (qtf Try.underlying30 (z := 0) (off := 0)) ?_
  refine gv (qtl Try.underlying2 (n := 11)) ?_
  refine gv (qtf Try.underlying30 (z := 0) (off := 0)) ?_
  refine gv (qtl Try.underlying2 (n := 12)) ?_
  refine gv (qt_mul rfl rfl rfl (by omega)) ?_
  refine gv (qt_makeF rfl rfl) ?_
  refine gv (qt_makeF rfl rfl) ?_
  refine gv (qt_build rfl rfl bt023_plan_pairOf_int64_int64) ?_
  refine gop fun K23 hK23 => ?_
  refine go_alloc (z := (.agg #[.int .i64 0, .slice none 0 0, .nilFunc, .nilFunc])) (cs := [.int .i64 0, .slice none 0 0, .nilFunc, .nilFunc]) rfl rfl rfl (fun w => by kernel_rfl) rfl ?_
  intro B22
  refine hK23 _ _ ?_
  refine gop fun K24 hK24 => ?_
  refine go_storeS (n := 13) rfl rfl rfl rfl (by kernel_rfl) rfl rfl rfl ?_
  refine hK24 _ _ ?_
  refine gnt (hK21 _ _ ?_)
  refine gc_seq fun K25 hK25 => ?_
  refine gc_sr fun K26 hK26 => ?_
  refine gv (qts Try.underlying30 (n := 11)) ?_
  refine g_q (.free rfl) rfl rfl (qt_call rfl Try.func122 rfl (by decide) rfl (fun w M => arrows_any w _ _ (rdC_mk ((mem_own1 (n := 3) M rfl).rd) ((mem_own1 (n := 4) M rfl).rd) ((mem_own1 (n := 5) M rfl).rd) (mem_rdU (n := 6) M rfl)))) ?_
  refine gm ?_
  refine gnt (hK26 _ _ ?_)
  refine gc_block ?_
  refine gc_nilE lab_pair ?_
  try simp only [sL]
  refine gc_loopT ([(0, _), (1, _), (2, _), (3, _), (4, _), (5, _), (6, _), (7, _), (8, _), (9, _), (22, _), (34, _)] : Env) (fun s : Nat × (Option Addr) × Nat => (fun (k : Nat) (a : Option Addr) (q : Nat) => (([(35, .int .i64 (k : Int))] : Env), ([(13, bxI B22 163 [.int .i64 (c.ob * d.ob), .slice a (ents2 (entP c d) d.s.length k 0).length q, .func (.func 169) #[] #[.pointer (some ⟨B11, 0, none⟩), .pointer (some ⟨B13, 0, none⟩)], .func (.func 170) #[] #[.pointer (some ⟨B11, 0, none⟩), .pointer (some ⟨B13, 0, none⟩)]]), (14, ownEI lab_pair (.slice a (ents2 (entP c d) d.s.length k 0).length q) (ents2 (entP c d) d.s.length k 0))] : List (Nat × Itm)), k ≤ c.s.length, c.s.length - k)) s.1 s.2.1 s.2.2) (0, _, _) (by repeat first | exact sub_nil | refine sub_cons rfl ?_) rfl (Nat.zero_le _) ?_
  rintro ⟨k, a, q⟩ hinv KL27 hKL27
  simp only [sU, sL] at hinv hKL27 ⊢
  have hk := hinv
  refine gc_sr fun K28 hK28 => ?_
  refine gv (qt_lss rfl rfl rfl) ?_
  refine gnt (hK28 _ _ ?_)
  refine gc_seq fun K29 hK29 => ?_
  refine gc_cond rfl (fun hc1 => ?_) (fun hc1 => ?_)
  ·try simp only [sA] at hc1
   refine gc_skip ?_
   refine gk_then (hK29 _ _ ?_)
   refine gc_seq fun K30 hK30 => ?_
   refine gc_block ?_
   refine gc_sr fun K31 hK31 => ?_
   refine gm ?_
   refine gas ?_
   refine gnt (hK31 _ _ ?_)
   refine gc_sr fun K32 hK32 => ?_
   refine gv (qts Try.underlying30 (n := 12)) ?_
   refine g_q (.free rfl) rfl rfl (qt_call rfl Try.func122 rfl (by decide) rfl (fun w M => arrows_any w _ _ (rdC_mk ((mem_own1 (n := 7) M rfl).rd) ((mem_own1 (n := 8) M rfl).rd) ((mem_own1 (n := 9) M rfl).rd) (mem_rdU (n := 10) M rfl)))) ?_
   refine gm ?_
   refine gnt (hK32 _ _ ?_)
   refine gc_block ?_
   try simp only [sL]
   refine gc_loopT ([(0, _), (1, _), (2, _), (3, _), (4, _), (5, _), (6, _), (7, _), (8, _), (9, _), (10, _), (22, _), (34, _), (35, _), (36, _), (39, _)] : Env) (fun s : Nat × (Option Addr) × Nat => (fun (l : Nat) (a : Option Addr) (q : Nat) => (([(40, .int .i64 (l : Int))] : Env), ([(13, bxI B22 163 [.int .i64 (c.ob * d.ob), .slice a (ents2 (entP c d) d.s.length k l).length q, .func (.func 169) #[] #[.pointer (some ⟨B11, 0, none⟩), .pointer (some ⟨B13, 0, none⟩)], .func (.func 170) #[] #[.pointer (some ⟨B11, 0, none⟩), .pointer (some ⟨B13, 0, none⟩)]]), (14, ownEI lab_pair (.slice a (ents2 (entP c d) d.s.length k l).length q) (ents2 (entP c d) d.s.length k l))] : List (Nat × Itm)), l ≤ d.s.length, d.s.length - l)) s.1 s.2.1 s.2.2) (0, _, _) (by repeat first | exact sub_nil | refine sub_cons rfl ?_) rfl (Nat.zero_le _) ?_
   rintro ⟨l, a, q⟩ hinv KL33 hKL33
   simp only [sU, sL] at hinv hKL33 ⊢
   have hl0 := hinv
   refine gc_sr fun K34 hK34 => ?_
   refine gv (qt_lss rfl rfl rfl) ?_
   refine gnt (hK34 _ _ ?_)
   refine gc_seq fun K35 hK35 => ?_
   refine gc_cond rfl (fun hc2 => ?_) (fun hc2 => ?_)
   ·try simp only [sA] at hc2
    refine gc_skip ?_
    refine gk_then (hK35 _ _ ?_)
    refine gc_seq fun K36 hK36 => ?_
    refine gc_block ?_
    refine gc_sr fun K37 hK37 => ?_
    refine gm ?_
    refine gas ?_
    refine gnt (hK37 _ _ ?_)
    refine gc_seq fun K38 hK38 => ?_
    have i1 := at_lt hS.sa (k := k) (by omega)
    have i2 := at_lt gS.sa (k := l) (by omega)
    have i3 := mul_bd (x := at0 c.s (k : Int)) (a := c.ob) (b := d.ob) i1 (by omega) (by omega)
    have j1 := at_lt hS.ta (k := k) (by omega)
    have j2 := at_lt gS.ta (k := l) (by omega)
    have j3 := mul_bd (x := at0 c.t (k : Int)) (a := c.ob) (b := d.ob) j1 (by omega) (by omega)
    have hg := grid_small (n := c.s.length) (m := d.s.length) (a := k) (b := l) hn40 gn40 (by omega) (by omega)
    have hl := entP_len c d d.s.length k l
    refine gc_draw (by kernel_rfl) ?_
    refine gdv (qtf Try.underlying30 (z := 0) (off := 1)) ?_
    refine gdv (qtl Try.underlying22 (n := 11)) ?_
    refine gdv (qt_move rfl rfl) ?_
    refine gdv (qti (fun w M => lenA_own1 (n := 3) rfl M)) ?_
    refine gdv (qtd (fun w M => (mem_own1 (n := 3) M rfl).rd)) ?_
    refine gdv (qtf Try.underlying30 (z := 0) (off := 0)) ?_
    refine gdv (qtl Try.underlying2 (n := 12)) ?_
    refine gdv (qt_mul rfl rfl rfl (by omega)) ?_
    refine gdv (qtf Try.underlying30 (z := 0) (off := 1)) ?_
    refine gdv (qtl Try.underlying22 (n := 12)) ?_
    refine gdv (qt_move rfl rfl) ?_
    refine gdv (qti (fun w M => lenA_own1 (n := 7) rfl M)) ?_
    refine gdv (qtd (fun w M => (mem_own1 (n := 7) M rfl).rd)) ?_
    refine gdv (qt_add rfl rfl rfl (by omega)) ?_
    refine gdv (qt_assign rfl rfl) ?_
    refine gd_nil ?_
    refine gk_then (hK38 _ _ ?_)
    refine gc_seq fun K39 hK39 => ?_
    refine gc_draw (by kernel_rfl) ?_
    refine gdv (qtf Try.underlying30 (z := 0) (off := 2)) ?_
    refine gdv (qtl Try.underlying22 (n := 11)) ?_
    refine gdv (qt_move rfl rfl) ?_
    refine gdv (qti (fun w M => lenA_own1 (n := 4) rfl M)) ?_
    refine gdv (qtd (fun w M => (mem_own1 (n := 4) M rfl).rd)) ?_
    refine gdv (qtf Try.underlying30 (z := 0) (off := 0)) ?_
    refine gdv (qtl Try.underlying2 (n := 12)) ?_
    refine gdv (qt_mul rfl rfl rfl (by omega)) ?_
    refine gdv (qtf Try.underlying30 (z := 0) (off := 2)) ?_
    refine gdv (qtl Try.underlying22 (n := 12)) ?_
    refine gdv (qt_move rfl rfl) ?_
    refine gdv (qti (fun w M => lenA_own1 (n := 8) rfl M)) ?_
    refine gdv (qtd (fun w M => (mem_own1 (n := 8) M rfl).rd)) ?_
    refine gdv (qt_add rfl rfl rfl (by omega)) ?_
    refine gdv (qt_assign rfl rfl) ?_
    refine gd_nil ?_
    refine gk_then (hK39 _ _ ?_)
    refine gc_region ?_
    refine gm ?_
    refine gm ?_
    refine gv (qt_build rfl rfl bt_arrowEnds) ?_
    refine gm ?_
    refine gm ?_
    refine gv (qt_build rfl rfl bt_arrowPair) ?_
    refine gop fun K41 hK41 => ?_
    refine go_two (n := 13) (m := 14) (m' := 13) (σ := Option Addr × Nat) rfl rfl rfl Try.func172 rfl (by decide) rfl rfl rfl (fun z => rfl) (fun R w M => add_pair _ w R _ _ _ _ ((k : Int), (l : Int)) _ _ _ _ _ (by omega) M) ?_
    intro ⟨sa40, sq40⟩
    refine hK41 _ _ ?_
    refine g_nil ?_
    refine gk_block ?_
    refine gk_then (hK36 _ _ ?_)
    refine gc_region ?_
    refine gv (qt_add rfl rfl rfl (by omega)) ?_
    refine gm ?_
    refine g_nil ?_
    simp only [pdS_def, pdT_def, entP_def, ents2_succ (φ := entP c d) (m := d.s.length) (a := k) (b := l) (by omega)]
    refine gk_then (gk_take 15 ?_)
    refine gk_sub ?hs_42 (hKL33 (l + 1, _, _) ?hi_42 ?hm_42)
    case hs_42 => repeat first | exact sub_nil | refine sub_cons rfl ?_
    case hi_42 => omega
    case hm_42 => omega
   ·try simp only [sA] at hc2
    refine gc_exit ?_
    refine gk_then_exit ?_
    refine gk_then_exit ?_
    refine gk_block_hit ?_
    refine gk_block ?_
    refine gk_then (hK30 _ _ ?_)
    refine gc_region ?_
    refine gv (qt_add rfl rfl rfl (by omega)) ?_
    refine gm ?_
    refine g_nil ?_
    obtain rfl : l = d.s.length := by omega
    rw [ents2_row]
    refine gk_then (gk_take 15 ?_)
    refine gk_sub ?hs_43 (hKL27 (k + 1, _, _) ?hi_43 ?hm_43)
    case hs_43 => repeat first | exact sub_nil | refine sub_cons rfl ?_
    case hi_43 => omega
    case hm_43 => omega
  ·try simp only [sA] at hc1
   refine gc_exit ?_
   refine gk_then_exit ?_
   refine gk_then_exit ?_
   refine gk_block_hit ?_
   refine gk_then (hK25 _ _ ?_)
   refine gc_seq fun K44 hK44 => ?_
   obtain rfl : k = c.s.length := by omega
   refine gc_region ?_
   refine gv (qts Try.underlying163 (n := 13)) ?_
   refine gop fun K46 hK46 => ?_
   refine go_callCI rfl rfl rfl Try.func173 rfl (by decide) rfl (fun w M => build_pair w (c.ob * d.ob) _ (ents2 (entP c d) d.s.length c.s.length 0) (mem_ownE (n := 14) M rfl) (ents2_nodup entP_inj) (hob.1) _ _ (uP c d) (⟨_, Try.func169, rfl, by decide⟩) (fun w' hb x hx => prdC1_any w' (x : Int) _ _ _ c (rdC_below hb (rdC_mk ((mem_own1 (n := 3) M rfl).rd) ((mem_own1 (n := 4) M rfl).rd) ((mem_own1 (n := 5) M rfl).rd) (mem_rdU (n := 6) M rfl))) _ d (rdC_below hb (rdC_mk ((mem_own1 (n := 7) M rfl).rd) ((mem_own1 (n := 8) M rfl).rd) ((mem_own1 (n := 9) M rfl).rd) (mem_rdU (n := 10) M rfl))) hS gS (bxV_below hb (bxV_of (n := 11) M rfl)) (bxV_below hb (bxV_of (n := 12) M rfl)) (by omega) hx) _ _ (thP c d) (⟨_, Try.func170, rfl, by decide⟩) (fun w' hb f hf g hg _ => by obtain ⟨i, j, hi, hj, rfl⟩ := ents2_mem.1 hf; obtain ⟨k, l, hk, hl, rfl⟩ := ents2_mem.1 hg; exact prdC2_any w' (i : Int) (j : Int) (k : Int) (l : Int) _ _ _ c (rdC_below hb (rdC_mk ((mem_own1 (n := 3) M rfl).rd) ((mem_own1 (n := 4) M rfl).rd) ((mem_own1 (n := 5) M rfl).rd) (mem_rdU (n := 6) M rfl))) _ d (rdC_below hb (rdC_mk ((mem_own1 (n := 7) M rfl).rd) ((mem_own1 (n := 8) M rfl).rd) ((mem_own1 (n := 9) M rfl).rd) (mem_rdU (n := 10) M rfl))) hS gS (bxV_below hb (bxV_of (n := 11) M rfl)) (bxV_below hb (bxV_of (n := 12) M rfl)) (by omega) (by omega) (by omega) (by omega) (by omega) (by omega) (by omega) (by omega))) ?_
   intro ca45 cb45 cc45 cd45 ce45 cf45 cg45 ch45 cu45
   refine hK46 _ _ ?_
   refine gv (qt_extract rfl rfl rfl) ?_
   refine gv (qt_extract rfl rfl rfl) ?_
   refine gop fun K47 hK47 => ?_
   refine go_storeS (n := 2) rfl rfl rfl rfl (by kernel_rfl) rfl rfl rfl ?_
   refine hK47 _ _ ?_
   refine gas ?_
   refine gnt (hK44 _ _ ?_)
   refine gc_ret ?_
   refine ret_SI (n := 2) rfl rfl rfl Try.underlying30 rfl (by kernel_rfl) rfl (fun w M => ?_)
   have hm := prd_made hT.1 hT.2
   exact retCI_eq hm.1 hm.2 ⟨_, rfl, ownC_star (mem_pick (n := 18) (mem_pick (n := 18) (mem_pick (n := 18) (mem_pick (n := 18) (M) rfl) rfl) rfl) rfl).2, M.1⟩


theorem bound_ProductCategory (c d : Cat) : mzC (fProductCategory c d).1 ≤ 1152921504606846 := by
 by_cases h : fIsCategory c = true ∧ fIsCategory d = true
 ·by_cases hf : FitP (prodM c d)
  ·have hS := (isCat_of h.1).toShapeP; have gS := (isCat_of h.2).toShapeP
   have hob0 := hS.ob0; have gob0 := gS.ob0
   rw [prd_t h.1 h.2 hf]
   have h2 : (tab2 (pdS c d) d.s.length c.s.length 0).length ≤ 40 := hf.2
   have h1 : c.ob * d.ob ≤ 8 := hf.1
   rw [tab2_len] at h2
   refine mz_small (show (tab2 _ _ _ _).length ≤ 40 by rw [tab2_len]; exact h2) (show (tab2 _ _ _ _).length ≤ 40 by rw [tab2_len]; exact h2) (show (tab2 _ _ _ _).length ≤ 40 from ?_) (show (rows2 _ _ _ _).length ≤ 40 by rw [rows2_len]; exact h2) fun i hi => ?_
   ·rw [tab2_len]
    obtain ⟨x, hx⟩ := Int.eq_ofNat_of_zero_le hob0
    obtain ⟨y, hy⟩ := Int.eq_ofNat_of_zero_le gob0
    rw [hx, hy] at h1 ⊢
    rw [← Int.natCast_mul] at h1
    simp only [Int.toNat_natCast]
    have := Nat.mul_comm x y
    omega
   ·have hi : i < (rows2 (pdR c d) d.s.length c.s.length 0).length := hi
    rw [rows2_len] at hi
    rw [show row2 (prodM c d, (0 : Int)).1.m (i : Int) = _ from rows2_at _ (by simpa using hi)]
    show (tab2 _ _ _ _).length ≤ 40
    rw [tab2_len]; exact h2
  ·rw [prd_l h.1 h.2 hf]; show mzC cat0 ≤ _; decide
 ·rw [prd_n h]; show mzC cat0 ≤ _; decide

end Go.Proofs.Ytfnneogadciimab
