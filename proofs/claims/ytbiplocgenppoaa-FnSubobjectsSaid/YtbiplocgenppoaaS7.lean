import Derived.Test.YtbiplocgenppoaaS4
import Derived.Test.YtbiplocgenppoaaS2
import Derived.Test.YtbiplocgenppoaaS1
set_option maxHeartbeats 4000000
set_option maxRecDepth 100000
set_option linter.unusedSimpArgs false
set_option linter.unusedVariables false
set_option linter.unusedSectionVars false
namespace Go.Proofs.Ytbiplocgenppoaa
open _root_.Go.Proofs.Try
open Go.RowKit
structure View (w : World) (c : Cat) (b1 o1 b2 o2 b3 o3 b4 o4 : Nat) (R : Int → Nat × Nat × Nat) : Prop where
 l1 : b1 < w.heap.size
 l2 : b2 < w.heap.size
 l3 : b3 < w.heap.size
 l4 : b4 < w.heap.size
 s : ∀ f : Int, 0 ≤ f → f < c.s.length → w.cell? ⟨b1, o1 + f.toNat, none⟩ = some (.int .i64 (at0 c.s f))
 t : ∀ f : Int, 0 ≤ f → f < c.s.length → w.cell? ⟨b2, o2 + f.toNat, none⟩ = some (.int .i64 (at0 c.t f))
 e : ∀ x : Int, 0 ≤ x → x < c.ob → w.cell? ⟨b3, o3 + x.toNat, none⟩ = some (.int .i64 (at0 c.e x))
 m : ∀ f : Int, 0 ≤ f → f < c.s.length → (R f).1 < w.heap.size ∧ w.cell? ⟨b4, o4 + f.toNat, none⟩ = some (.slice (some ⟨(R f).1, (R f).2.1, none⟩) c.s.length (R f).2.2)
 th : ∀ f g : Int, 0 ≤ f → f < c.s.length → 0 ≤ g → g < c.s.length → w.cell? ⟨(R f).1, (R f).2.1 + g.toNat, none⟩ = some (.int .i64 (c.th f g))
end Go.Proofs.Ytbiplocgenppoaa
namespace Go.Proofs.Ytbiplocgenppoaa
open _root_.Go.Proofs.Try
open Go.RowKit
theorem firstN_spec {p : Nat → Prop} {n k : Nat} (h : firstN p n = some k) : k < n ∧ p k ∧ ∀ j, j < k → ¬ p j := by
 have hp := firstN_prop h
 unfold firstN at h
 have hm := List.mem_of_find?_eq_some h
 refine ⟨by simpa using hm, hp, fun j hj hpj => ?_⟩
 rw [List.find?_eq_some_iff_append] at h
 obtain ⟨_, la, lb, he, hno⟩ := h
 have hk : k = la.length := by
  have h1 : (List.range n)[la.length]? = some k := by rw [he]; simp
  rw [List.getElem?_eq_some_iff] at h1
  obtain ⟨_, h2⟩ := h1
  simpa using h2.symm
 have hj2 : j ∈ la := by
  have h3 : j < la.length := by omega
  have h1 : (List.range n)[j]? = some (la[j]) := by rw [he, List.getElem?_append_left h3, List.getElem?_eq_getElem h3]
  rw [List.getElem?_eq_some_iff] at h1
  obtain ⟨_, h2⟩ := h1
  have h4 : j = la[j] := by rw [List.getElem_range] at h2; exact h2
  rw [h4]; exact List.getElem_mem h3
 have := hno j hj2
 rw [bP_t hpj] at this
 simp at this
def noBadId (c : Cat) : Prop := ∀ j : Nat, j < c.s.length → ¬ badId c j
def noBadAs (c : Cat) : Prop := ∀ f g k : Nat, f < c.s.length → g < c.s.length → k < c.s.length → ¬ badAs c f g k
def FirstId (c : Cat) (m : Nat) : Prop := m < c.s.length ∧ badId c m ∧ ∀ j : Nat, j < m → ¬ badId c j
def FirstAs (c : Cat) (f g k : Nat) : Prop :=
 f < c.s.length ∧ g < c.s.length ∧ k < c.s.length ∧ badAs c f g k ∧ (∀ f' g' k' : Nat, f' < f → g' < c.s.length → k' < c.s.length → ¬ badAs c f' g' k') ∧
  (∀ g' k' : Nat, g' < g → k' < c.s.length → ¬ badAs c f g' k') ∧ ∀ k' : Nat, k' < k → ¬ badAs c f g k'
inductive FaultP (c : Cat) : Int → Int → Int → Int → Prop
 | id (m : Nat) (h : FirstId c m) : FaultP c 1 m 0 0
 | asc (f g k : Nat) (h0 : noBadId c) (h : FirstAs c f g k) : FaultP c 2 f g k
 | no (h0 : noBadId c) (h : noBadAs c) : FaultP c 0 0 0 0
theorem faultP_of (c : Cat) : FaultP c (faultOf c).1 (faultOf c).2.1 (faultOf c).2.2.1 (faultOf c).2.2.2 := by
 unfold faultOf
 cases h1 : firstN (fun f => badId c f) c.s.length with
 | some f => exact .id f (firstN_spec h1)
 | none =>
  have hn : noBadId c := fun j hj => firstN_no h1 hj
  simp only
  cases h2 : first3 (fun f g h : Nat => badAs c f g h) c.s.length with
  | none =>
   refine .no hn fun f g k hf hg hk hb => ?_
   have h0 : (faultOf c).1 = 0 := by
    unfold faultOf
    rw [h1]
    simp only
    rw [h2]
   exact (fault_zero.1 h0).2 f g k hf hg hk hb
  | some r =>
   obtain ⟨f, g, k⟩ := r
   simp only
   unfold first3 at h2
   cases e1 : firstN (fun f : Nat => ∃ g h : Nat, g < c.s.length ∧ h < c.s.length ∧ badAs c f g h) c.s.length with
   | none => rw [e1] at h2; simp at h2
   | some f1 =>
    rw [e1] at h2
    simp only at h2
    cases e2 : firstN (fun g : Nat => ∃ h : Nat, h < c.s.length ∧ badAs c f1 g h) c.s.length with
    | none => rw [e2] at h2; simp at h2
    | some g1 =>
     rw [e2] at h2
     simp only at h2
     cases e3 : firstN (fun h : Nat => badAs c f1 g1 h) c.s.length with
     | none => rw [e3] at h2; simp at h2
     | some k1 =>
      rw [e3] at h2
      simp only [Option.some.injEq, Prod.mk.injEq] at h2
      obtain ⟨rfl, rfl, rfl⟩ := h2
      obtain ⟨a1, _, a3⟩ := firstN_spec e1
      obtain ⟨b1, _, b3⟩ := firstN_spec e2
      obtain ⟨c1, c2, c3⟩ := firstN_spec e3
      exact .asc _ _ _ hn ⟨a1, b1, c1, c2, fun f' g' k' hf' hg' hk' hb => a3 f' hf' ⟨g', k', hg', hk', hb⟩, fun g' k' hg' hk' hb => b3 g' hg' ⟨k', hk', hb⟩, c3⟩
theorem firstAs_unique {c : Cat} {f g k f' g' k' : Nat} (h : FirstAs c f g k) (h' : FirstAs c f' g' k') : f = f' ∧ g = g' ∧ k = k' := by
 obtain ⟨a1, a2, a3, a4, a5, a6, a7⟩ := h
 obtain ⟨b1, b2, b3, b4, b5, b6, b7⟩ := h'
 have e1 : f = f' := by
  rcases Nat.lt_trichotomy f f' with h | h | h
  ·exact absurd a4 (b5 f g k h a2 a3)
  ·exact h
  exact absurd b4 (a5 f' g' k' h b2 b3)
 subst e1
 have e2 : g = g' := by
  rcases Nat.lt_trichotomy g g' with h | h | h
  ·exact absurd a4 (b6 g k h a3)
  ·exact h
  exact absurd b4 (a6 g' k' h b3)
 subst e2
 refine ⟨rfl, rfl, ?_⟩
 rcases Nat.lt_trichotomy k k' with h | h | h
 ·exact absurd a4 (b7 k h)
 ·exact h
 exact absurd b4 (a7 k' h)
theorem faultP_id {c : Cat} {k f g h : Int} (hp : FaultP c k f g h) {m : Nat} (hm : FirstId c m) : k = 1 ∧ f = m ∧ g = 0 ∧ h = 0 := by
 obtain ⟨h1, h2, h3⟩ := hm
 cases hp with
 | id m' h' =>
  obtain ⟨g1, g2, g3⟩ := h'
  rcases Nat.lt_trichotomy m m' with h | h | h
  ·exact absurd h2 (g3 m h)
  ·subst h; exact ⟨rfl, rfl, rfl, rfl⟩
  exact absurd g2 (h3 m' h)
 | asc _ _ _ h0 _ => exact absurd h2 (h0 m h1)
 | no h0 _ => exact absurd h2 (h0 m h1)
theorem faultP_as {c : Cat} {k f g h : Int} (hp : FaultP c k f g h) (h0 : noBadId c) {f' g' k' : Nat} (hm : FirstAs c f' g' k') : k = 2 ∧ f = f' ∧ g = g' ∧ h = k' := by
 cases hp with
 | id m h' => exact absurd h'.2.1 (h0 m h'.1)
 | asc a b d _ h1 =>
  obtain ⟨rfl, rfl, rfl⟩ := firstAs_unique h1 hm
  exact ⟨rfl, rfl, rfl, rfl⟩
 | no _ h1 => exact absurd hm.2.2.2.1 (h1 _ _ _ hm.1 hm.2.1 hm.2.2.1)
theorem faultP_no {c : Cat} {k f g h : Int} (hp : FaultP c k f g h) (h0 : noBadId c) (h1 : noBadAs c) : k = 0 ∧ f = 0 ∧ g = 0 ∧ h = 0 := by
 cases hp with
 | id m h' => exact absurd h'.2.1 (h0 m h'.1)
 | asc a b d _ h2 => exact absurd h2.2.2.2.1 (h1 _ _ _ h2.1 h2.2.1 h2.2.2.1)
 | no _ _ => exact ⟨rfl, rfl, rfl, rfl⟩
end Go.Proofs.Ytbiplocgenppoaa
namespace Go.Proofs.Ytbiplocgenppoaa
open _root_.Go.Proofs.Try
open Go.RowKit
theorem row2_lenS {c : Cat} (hr : ∀ j, j < c.m.length → (c.m.getD j []).length = c.s.length) {f : Int} (f0 : 0 ≤ f) (f1 : f < c.m.length) : (row2 c.m f).length = c.s.length := hr f.toNat (by omega)
structure ArrP (c : Cat) (f : Int) : Prop where
 f0 : 0 ≤ f
 fs : f < c.s.length
 ft : f < c.t.length
 fm : f < c.m.length
 s0 : 0 ≤ at0 c.s f
 s1 : at0 c.s f < c.e.length
 t0 : 0 ≤ at0 c.t f
 t1 : at0 c.t f < c.e.length
 row : (row2 c.m f).length = c.s.length
theorem arrP {c : Cat} (h : ShapeP c) {f : Int} (f0 : 0 ≤ f) (f1 : f < c.s.length) : ArrP c f := by
 obtain ⟨k, rfl⟩ := Int.eq_ofNat_of_zero_le f0
 have hk : k < c.s.length := by omega
 have := h.src hk; have := h.tgt hk; have := h.el; have := h.tl; have := h.ml
 exact ⟨by omega, by omega, by omega, by omega, by omega, by omega, by omega, by omega, row2_lenS h.rl (by omega) (by omega)⟩
end Go.Proofs.Ytbiplocgenppoaa
namespace Go.Proofs.Ytbiplocgenppoaa
open _root_.Go.Proofs.Try
open Go.RowKit
def Ret4 (W : World) (k f g h : Int) (e : Ending) (w' : World) : Prop := e = .returned (.tuple #[.int .i64 k, .int .i64 f, .int .i64 g, .int .i64 h]) ∧ Below W.heap.size W w'
theorem comp_arr {c : Cat} (hS : ShapeP c) {f g : Int} (f0 : 0 ≤ f) (f1 : f < c.s.length) (g0 : 0 ≤ g) (g1 : g < c.s.length) (h : at0 c.t f = at0 c.s g) : 0 ≤ c.th f g ∧ c.th f g < c.s.length := by
 obtain ⟨a, rfl⟩ := Int.eq_ofNat_of_zero_le f0
 obtain ⟨b, rfl⟩ := Int.eq_ofNat_of_zero_le g0
 have := ((hS.co a b (by omega) (by omega)).1 h).1
 exact ⟨this.1, this.2⟩
structure ArrQ (c : Cat) (f : Int) : Prop extends ArrP c f where
 i0 : 0 ≤ at0 c.e (at0 c.s f)
 i1 : at0 c.e (at0 c.s f) < c.s.length
 j0 : 0 ≤ at0 c.e (at0 c.t f)
 j1 : at0 c.e (at0 c.t f) < c.s.length
 i2 : at0 c.e (at0 c.s f) < c.m.length
 ri : (row2 c.m (at0 c.e (at0 c.s f))).length = c.s.length
theorem arrQ {c : Cat} (hS : ShapeP c) {f : Int} (f0 : 0 ≤ f) (f1 : f < c.s.length) : ArrQ c f := by
 have h := arrP hS f0 f1
 have he := hS.el
 have h1 := hS.idn h.s0 (by have := h.s1; omega)
 have h2 := hS.idn h.t0 (by have := h.t1; omega)
 have h3 := arrP hS h1.1 h1.2.1
 exact ⟨h, h1.1, h1.2.1, h2.1, h2.2.1, h3.fm, h3.row⟩
theorem badId_1 {c : Cat} {k : Int} (h : ¬ at0 (row2 c.m (at0 c.e (at0 c.s k))) k = k) : badId c k := fun hb => h hb.1
theorem badId_2 {c : Cat} {k : Int} (h : ¬ at0 (row2 c.m k) (at0 c.e (at0 c.t k)) = k) : badId c k := fun hb => h hb.2
theorem badId_n {c : Cat} {k : Int} (h1 : at0 (row2 c.m (at0 c.e (at0 c.s k))) k = k) (h2 : at0 (row2 c.m k) (at0 c.e (at0 c.t k)) = k) : ¬ badId c k := fun hb => hb ⟨h1, h2⟩
theorem specFault_any (w : World) (v : Value) (c : Cat) (rk rf rg rh : Int) (h : RdC w v c) (hS : ShapeP c) (hP : FaultP c rk rf rg rh) :
  Calls Try.prog 67 #[v] w (Ret4 w rk rf rg rh) := by
 have h0 := h
 obtain ⟨va, vb, vc, vd, ve, vf, vg, vh, rfl, h1, h2, h3, h4, _⟩ := h.lists
 have hn40 := hS.n40; have htl := hS.tl; have hml := hS.ml
 go_enter func67, Try.ntmps67
 refine gc_enter (N := 131) rfl (look_cons (k := 0) rfl (look_nil _)) ?_
 refine gc_sr fun K1 hK1 => ?_
 refine gop fun K3 hK3 => ?_
 refine go_box rfl rfl rfl rfl rfl ?_
 intro B2
 refine hK3 _ _ ?_
 refine gas ?_
 refine gas ?_
 refine gas ?_
 refine gas ?_
 refine gnt (hK1 _ _ ?_)
 refine gc_sr fun K4 hK4 => ?_
 refine gv (qtf underlying27 (z := 0) (off := 1)) ?_
 refine gv (qtl underlying24 (n := 0)) ?_
 refine gv (qln (fun w M => lenV_rd h1)) ?_
 refine gas ?_
 refine gnt (hK4 _ _ ?_)
 refine gc_seq fun K5 hK5 => ?_
 refine gc_sr fun K6 hK6 => ?_
 refine gas ?_
 refine gnt (hK6 _ _ ?_)
 refine gc_block ?_
 try simp only [sL]
 refine gc_loopT ([(0, _), (1, _), (6, _)] : Env) (fun s : Nat => (fun (k : Nat) => (([(7, .int .i64 (k : Int))] : Env), ([] : List (Nat × Itm)), k ≤ c.s.length ∧ ∀ j : Nat, j < k → ¬ badId c j, c.s.length - k)) s) (0) (by repeat first | exact sub_nil | refine sub_cons rfl ?_) rfl ⟨Nat.zero_le _, fun j hj => absurd hj (by omega)⟩ ?_
 rintro k hinv KL7 hKL7
 simp only [sU, sL] at hinv hKL7 ⊢
 obtain ⟨hk, hall⟩ := hinv
 refine gc_seq fun K8 hK8 => ?_
 refine gc_sr fun K9 hK9 => ?_
 refine gm ?_
 refine gm ?_
 refine gv (qt_lss rfl rfl rfl) ?_
 refine gnt (hK9 _ _ ?_)
 refine gc_cond rfl (fun hc0 => ?_) (fun hc0 => ?_)
 ·try simp only [sA] at hc0
  refine gc_skip ?_
  refine gk_then (hK8 _ _ ?_)
  refine gc_seq fun K10 hK10 => ?_
  refine gc_block ?_
  refine gc_seq fun K11 hK11 => ?_
  have A := arrQ hS (f := (k : Int)) (by omega) (by omega)
  have a1 := A.f0; have a2 := A.fs; have a3 := A.ft; have a4 := A.fm; have a5 := A.s0; have a6 := A.s1; have a7 := A.t0; have a8 := A.t1; have a9 := A.row
  have b1 := A.i0; have b2 := A.i1; have b3 := A.j0; have b4 := A.j1; have b5 := A.i2; have b6 := A.ri
  refine gc_draw (by kernel_rfl) ?_
  refine gdv (qtf underlying27 (z := 0) (off := 4)) ?_
  refine gdv (qtl underlying25 (n := 0)) ?_
  refine gdv (qtf underlying27 (z := 0) (off := 3)) ?_
  refine gdv (qtl underlying24 (n := 0)) ?_
  refine gdv (qtf underlying27 (z := 0) (off := 1)) ?_
  refine gdv (qtl underlying24 (n := 0)) ?_
  refine gdv (qt_move rfl rfl) ?_
  refine gdv (qti (fun w M => lenA_rd h1)) ?_
  refine gdv (qtd (fun w M => mem_rd M h1)) ?_
  refine gdv (qti (fun w M => lenA_rd h3)) ?_
  refine gdv (qtd (fun w M => mem_rd M h3)) ?_
  refine gdv (qti2 (fun w M => lenA_rd2 h4)) ?_
  refine gd_load2 (.free rfl) rfl rfl rfl rfl underlying24 rfl h4 (by omega) (by omega) ?_
  intro ra12 rc12 hr12
  refine gdv (qt_move rfl rfl) ?_
  refine gdv (qti (fun w M => lenA_rd hr12)) ?_
  refine gdv (qtd (fun w M => mem_rd M hr12)) ?_
  refine gdv (qt_move rfl rfl) ?_
  refine gdv (qt_neq rfl rfl rfl) ?_
  refine gd_splitv (.free rfl) rfl rfl (qt_move rfl rfl) (fun hs5_18 => ?_) (fun hs5_18 => ?_)
  ·try simp only [sA] at hs5_18
   refine gdsk ?_
   refine gdsk ?_
   refine gdsk ?_
   refine gdsk ?_
   refine gdsk ?_
   refine gdsk ?_
   refine gdsk ?_
   refine gdsk ?_
   refine gdsk ?_
   refine gdsk ?_
   refine gdsk ?_
   refine gdsk ?_
   refine gdsk ?_
   refine gdsk ?_
   refine gdsk ?_
   refine gdsk ?_
   refine gdsk ?_
   refine gdsk ?_
   refine gdv (qt_pick_t rfl rfl rfl) ?_
   refine gd_nil ?_
   refine gk_then (hK11 _ _ ?_)
   refine gc_cond_t rfl ?_
   refine gc_sr fun K13 hK13 => ?_
   refine gm ?_
   refine gas ?_
   refine gas ?_
   refine gas ?_
   refine gas ?_
   refine gnt (hK13 _ _ ?_)
   refine gc_ret ?_
   refine gk_block_ret ?_
   refine gk_then_ret ?_
   refine gk_then_ret ?_
   refine gk_block_ret ?_
   refine gk_then_ret ?_
   refine ret_4 rfl rfl rfl rfl rfl  (fun w M => ?_)
   obtain ⟨rfl, rfl, rfl, rfl⟩ := faultP_id hP ⟨by omega, badId_1 hs5_18, hall⟩; exact ⟨rfl, M.1⟩
  try simp only [sA] at hs5_18
  refine gdvh (qtf underlying27 (z := 0) (off := 4)) ?_
  refine gdvh (qtl underlying25 (n := 0)) ?_
  refine gdvh (qt_move rfl rfl) ?_
  refine gdvh (qti2 (fun w M => lenA_rd2 h4)) ?_
  refine gd_load2 (.held _ _ _ rfl rfl rfl) rfl rfl rfl rfl underlying24 rfl h4 (by omega) (by omega) ?_
  intro ra14 rc14 hr14
  refine gdvh (qtf underlying27 (z := 0) (off := 3)) ?_
  refine gdvh (qtl underlying24 (n := 0)) ?_
  refine gdvh (qtf underlying27 (z := 0) (off := 2)) ?_
  refine gdvh (qtl underlying24 (n := 0)) ?_
  refine gdvh (qt_move rfl rfl) ?_
  refine gdvh (qti (fun w M => lenA_rd h2)) ?_
  refine gdvh (qtd (fun w M => mem_rd M h2)) ?_
  refine gdvh (qti (fun w M => lenA_rd h3)) ?_
  refine gdvh (qtd (fun w M => mem_rd M h3)) ?_
  refine gdvh (qti (fun w M => lenA_rd hr14)) ?_
  refine gdvh (qtd (fun w M => mem_rd M hr14)) ?_
  refine gdvh (qt_move rfl rfl) ?_
  refine gdvh (qt_neq rfl rfl rfl) ?_
  refine gdv (qt_pick_f rfl rfl rfl) ?_
  refine gd_nil ?_
  refine gk_then (hK11 _ _ ?_)
  refine gc_cond rfl (fun hc1 => ?_) (fun hc1 => ?_)
  ·try simp only [sA] at hc1
   refine gc_sr fun K15 hK15 => ?_
   refine gm ?_
   refine gas ?_
   refine gas ?_
   refine gas ?_
   refine gas ?_
   refine gnt (hK15 _ _ ?_)
   refine gc_ret ?_
   refine gk_block_ret ?_
   refine gk_then_ret ?_
   refine gk_then_ret ?_
   refine gk_block_ret ?_
   refine gk_then_ret ?_
   refine ret_4 rfl rfl rfl rfl rfl  (fun w M => ?_)
   obtain ⟨rfl, rfl, rfl, rfl⟩ := faultP_id hP ⟨by omega, badId_2 hc1, hall⟩; exact ⟨rfl, M.1⟩
  try simp only [sA] at hc1
  refine gc_skip ?_
  refine gk_block ?_
  refine gk_then (hK10 _ _ ?_)
  refine gc_region ?_
  refine gm ?_
  refine gv (qt_add rfl rfl rfl (by omega)) ?_
  refine gas ?_
  refine g_nil ?_
  refine gk_then (gk_take 1 ?_)
  refine gk_sub ?hs_16 (hKL7 (k + 1) ?hi_16 ?hm_16)
  case hs_16 => repeat first | exact sub_nil | refine sub_cons rfl ?_
  case hi_16 => exact ⟨by omega, all_next0 hall (badId_n hs5_18 hc1)⟩
  case hm_16 => omega
 try simp only [sA] at hc0
 refine gc_exit ?_
 refine gk_then_exit ?_
 refine gk_then_exit ?_
 refine gk_block_hit ?_
 refine gk_then (hK5 _ _ ?_)
 refine gc_seq fun K17 hK17 => ?_
 refine gc_sr fun K18 hK18 => ?_
 refine gas ?_
 refine gnt (hK18 _ _ ?_)
 refine gc_block ?_
 have NI : noBadId c := fun j hj => hall j (by omega)
 try simp only [sL]
 refine gc_loopT ([(0, _), (1, _), (6, _), (7, _), (16, _)] : Env) (fun s : Nat => (fun (p : Nat) => (([(8, .int .i64 (p : Int))] : Env), ([] : List (Nat × Itm)), p ≤ c.s.length ∧ ∀ f' g' k' : Nat, f' < p → g' < c.s.length → k' < c.s.length → ¬ badAs c f' g' k', c.s.length - p)) s) (0) (by repeat first | exact sub_nil | refine sub_cons rfl ?_) rfl ⟨Nat.zero_le _, fun f g k hf => absurd hf (by omega)⟩ ?_
 rintro p hinv KL19 hKL19
 simp only [sU, sL] at hinv hKL19 ⊢
 obtain ⟨hp, hA1⟩ := hinv
 refine gc_seq fun K20 hK20 => ?_
 refine gc_sr fun K21 hK21 => ?_
 refine gm ?_
 refine gm ?_
 refine gv (qt_lss rfl rfl rfl) ?_
 refine gnt (hK21 _ _ ?_)
 refine gc_cond rfl (fun hc2 => ?_) (fun hc2 => ?_)
 ·try simp only [sA] at hc2
  refine gc_skip ?_
  refine gk_then (hK20 _ _ ?_)
  refine gc_seq fun K22 hK22 => ?_
  refine gc_block ?_
  refine gc_sr fun K23 hK23 => ?_
  refine gas ?_
  refine gnt (hK23 _ _ ?_)
  refine gc_block ?_
  try simp only [sL]
  refine gc_loopT ([(0, _), (1, _), (6, _), (7, _), (8, _), (16, _), (60, _)] : Env) (fun s : Nat => (fun (g : Nat) => (([(9, .int .i64 (g : Int))] : Env), ([] : List (Nat × Itm)), g ≤ c.s.length ∧ ∀ g' k' : Nat, g' < g → k' < c.s.length → ¬ badAs c p g' k', c.s.length - g)) s) (0) (by repeat first | exact sub_nil | refine sub_cons rfl ?_) rfl ⟨Nat.zero_le _, fun g k hf => absurd hf (by omega)⟩ ?_
  rintro g hinv KL24 hKL24
  simp only [sU, sL] at hinv hKL24 ⊢
  obtain ⟨hg, hA2⟩ := hinv
  refine gc_seq fun K25 hK25 => ?_
  refine gc_sr fun K26 hK26 => ?_
  refine gm ?_
  refine gm ?_
  refine gv (qt_lss rfl rfl rfl) ?_
  refine gnt (hK26 _ _ ?_)
  refine gc_cond rfl (fun hc3 => ?_) (fun hc3 => ?_)
  ·try simp only [sA] at hc3
   refine gc_skip ?_
   refine gk_then (hK25 _ _ ?_)
   refine gc_seq fun K27 hK27 => ?_
   refine gc_block ?_
   refine gc_seq fun K28 hK28 => ?_
   refine gc_seq fun K29 hK29 => ?_
   refine gc_draw (by kernel_rfl) ?_
   refine gdv (qtf underlying27 (z := 0) (off := 2)) ?_
   refine gdv (qtl underlying24 (n := 0)) ?_
   refine gdv (qt_move rfl rfl) ?_
   refine gdv (qti (fun w M => lenA_rd h2)) ?_
   refine gdv (qtd (fun w M => mem_rd M h2)) ?_
   refine gdv (qtf underlying27 (z := 0) (off := 1)) ?_
   refine gdv (qtl underlying24 (n := 0)) ?_
   refine gdv (qt_move rfl rfl) ?_
   refine gdv (qti (fun w M => lenA_rd h1)) ?_
   refine gdv (qtd (fun w M => mem_rd M h1)) ?_
   refine gdv (qt_neq rfl rfl rfl) ?_
   refine gd_nil ?_
   refine gk_then (hK29 _ _ ?_)
   refine gc_cond rfl (fun hc4 => ?_) (fun hc4 => ?_)
   ·try simp only [sA] at hc4
    refine gc_exit ?_
    refine gk_then_exit ?_
    refine gk_block_hit ?_
    refine gk_then (hK27 _ _ ?_)
    refine gc_region ?_
    refine gm ?_
    refine gv (qt_add rfl rfl rfl (by omega)) ?_
    refine gas ?_
    refine g_nil ?_
    refine gk_then (gk_take 1 ?_)
    refine gk_sub ?hs_30 (hKL24 (g + 1) ?hi_30 ?hm_30)
    case hs_30 => repeat first | exact sub_nil | refine sub_cons rfl ?_
    case hi_30 => exact ⟨by omega, fun g' k' hg hk => by
   rcases Nat.lt_or_ge g' g with h1 | h1
   ·exact hA2 g' k' h1 hk
   ·obtain rfl : g' = g := by omega
    exact fun hb => hc4 hb.1⟩
    case hm_30 => omega
   try simp only [sA] at hc4
   refine gc_skip ?_
   refine gk_then (hK28 _ _ ?_)
   refine gc_sr fun K31 hK31 => ?_
   refine gas ?_
   refine gnt (hK31 _ _ ?_)
   refine gc_block ?_
   try simp only [sL]
   refine gc_loopT ([(0, _), (1, _), (6, _), (7, _), (8, _), (9, _), (16, _), (60, _), (65, _), (78, _)] : Env) (fun s : Nat => (fun (q : Nat) => (([(10, .int .i64 (q : Int))] : Env), ([] : List (Nat × Itm)), q ≤ c.s.length ∧ ∀ k' : Nat, k' < q → ¬ badAs c p g k', c.s.length - q)) s) (0) (by repeat first | exact sub_nil | refine sub_cons rfl ?_) rfl ⟨Nat.zero_le _, fun k hf => absurd hf (by omega)⟩ ?_
   rintro q hinv KL32 hKL32
   simp only [sU, sL] at hinv hKL32 ⊢
   obtain ⟨hq, hA3⟩ := hinv
   refine gc_seq fun K33 hK33 => ?_
   refine gc_sr fun K34 hK34 => ?_
   refine gm ?_
   refine gm ?_
   refine gv (qt_lss rfl rfl rfl) ?_
   refine gnt (hK34 _ _ ?_)
   refine gc_cond rfl (fun hc5 => ?_) (fun hc5 => ?_)
   ·try simp only [sA] at hc5
    refine gc_skip ?_
    refine gk_then (hK33 _ _ ?_)
    refine gc_seq fun K35 hK35 => ?_
    refine gc_block ?_
    refine gc_seq fun K36 hK36 => ?_
    have Af := arrP hS (f := (p : Int)) (by omega) (by omega)
    have Ag := arrP hS (f := (g : Int)) (by omega) (by omega)
    have a1 := Af.f0; have a2 := Af.fs; have a3 := Af.ft; have a4 := Af.fm; have a5 := Af.s0; have a6 := Af.s1; have a7 := Af.t0; have a8 := Af.t1; have a9 := Af.row
    have b1 := Ag.f0; have b2 := Ag.fs; have b3 := Ag.ft; have b4 := Ag.fm; have b5 := Ag.s0; have b6 := Ag.s1; have b7 := Ag.t0; have b8 := Ag.t1; have b9 := Ag.row
    have cu : 0 ≤ at0 (row2 c.m p) g ∧ at0 (row2 c.m p) g < c.s.length := comp_arr hS (by omega) (by omega) (by omega) (by omega) hc4
    have Au := arrP hS cu.1 cu.2
    have u1 := cu.1; have u2 := cu.2; have u3 := Au.fm; have u4 := Au.row
    refine gc_draw (by kernel_rfl) ?_
    refine gdv (qtf underlying27 (z := 0) (off := 2)) ?_
    refine gdv (qtl underlying24 (n := 0)) ?_
    refine gdv (qt_move rfl rfl) ?_
    refine gdv (qti (fun w M => lenA_rd h2)) ?_
    refine gdv (qtd (fun w M => mem_rd M h2)) ?_
    refine gdv (qtf underlying27 (z := 0) (off := 1)) ?_
    refine gdv (qtl underlying24 (n := 0)) ?_
    refine gdv (qt_move rfl rfl) ?_
    refine gdv (qti (fun w M => lenA_rd h1)) ?_
    refine gdv (qtd (fun w M => mem_rd M h1)) ?_
    refine gdv (qt_eql rfl rfl rfl) ?_
    refine gd_splitv (.free rfl) rfl rfl (qt_move rfl rfl) (fun hs17_11 => ?_) (fun hs17_11 => ?_)
    ·try simp only [sA] at hs17_11
     have cv : 0 ≤ at0 (row2 c.m g) q ∧ at0 (row2 c.m g) q < c.s.length := comp_arr hS (by omega) (by omega) (by omega) (by omega) hs17_11
     have v1 := cv.1; have v2 := cv.2
     refine gdvh (qtf underlying27 (z := 0) (off := 4)) ?_
     refine gdvh (qtl underlying25 (n := 0)) ?_
     refine gdvh (qtf underlying27 (z := 0) (off := 4)) ?_
     refine gdvh (qtl underlying25 (n := 0)) ?_
     refine gdvh (qt_move rfl rfl) ?_
     refine gdvh (qti2 (fun w M => lenA_rd2 h4)) ?_
     refine gd_load2 (.held _ _ _ rfl rfl rfl) rfl rfl rfl rfl underlying24 rfl h4 (by omega) (by omega) ?_
     intro ra37 rc37 hr37
     refine gdvh (qt_move rfl rfl) ?_
     refine gdvh (qti (fun w M => lenA_rd hr37)) ?_
     refine gdvh (qtd (fun w M => mem_rd M hr37)) ?_
     refine gdvh (qti2 (fun w M => lenA_rd2 h4)) ?_
     refine gd_load2 (.held _ _ _ rfl rfl rfl) rfl rfl rfl rfl underlying24 rfl h4 (by omega) (by omega) ?_
     intro ra38 rc38 hr38
     refine gdvh (qt_move rfl rfl) ?_
     refine gdvh (qti (fun w M => lenA_rd hr38)) ?_
     refine gdvh (qtd (fun w M => mem_rd M hr38)) ?_
     refine gdvh (qtf underlying27 (z := 0) (off := 4)) ?_
     refine gdvh (qtl underlying25 (n := 0)) ?_
     refine gdvh (qt_move rfl rfl) ?_
     refine gdvh (qti2 (fun w M => lenA_rd2 h4)) ?_
     refine gd_load2 (.held _ _ _ rfl rfl rfl) rfl rfl rfl rfl underlying24 rfl h4 (by omega) (by omega) ?_
     intro ra39 rc39 hr39
     refine gdvh (qtf underlying27 (z := 0) (off := 4)) ?_
     refine gdvh (qtl underlying25 (n := 0)) ?_
     refine gdvh (qt_move rfl rfl) ?_
     refine gdvh (qti2 (fun w M => lenA_rd2 h4)) ?_
     refine gd_load2 (.held _ _ _ rfl rfl rfl) rfl rfl rfl rfl underlying24 rfl h4 (by omega) (by omega) ?_
     intro ra40 rc40 hr40
     refine gdvh (qt_move rfl rfl) ?_
     refine gdvh (qti (fun w M => lenA_rd hr40)) ?_
     refine gdvh (qtd (fun w M => mem_rd M hr40)) ?_
     refine gdvh (qti (fun w M => lenA_rd hr39)) ?_
     refine gdvh (qtd (fun w M => mem_rd M hr39)) ?_
     refine gdvh (qt_neq rfl rfl rfl) ?_
     refine gdv (qt_pick_t rfl rfl rfl) ?_
     refine gd_nil ?_
     refine gk_then (hK36 _ _ ?_)
     refine gc_cond rfl (fun hc6 => ?_) (fun hc6 => ?_)
     ·try simp only [sA] at hc6
      refine gc_sr fun K41 hK41 => ?_
      refine gm ?_
      refine gm ?_
      refine gm ?_
      refine gas ?_
      refine gas ?_
      refine gas ?_
      refine gas ?_
      refine gnt (hK41 _ _ ?_)
      refine gc_ret ?_
      refine gk_block_ret ?_
      refine gk_then_ret ?_
      refine gk_then_ret ?_
      refine gk_block_ret ?_
      refine gk_block_ret ?_
      refine gk_then_ret ?_
      refine gk_then_ret ?_
      refine gk_block_ret ?_
      refine gk_block_ret ?_
      refine gk_then_ret ?_
      refine gk_then_ret ?_
      refine gk_block_ret ?_
      refine gk_then_ret ?_
      refine ret_4 rfl rfl rfl rfl rfl  (fun w M => ?_)
      obtain ⟨rfl, rfl, rfl, rfl⟩ := faultP_as hP NI ⟨by omega, by omega, by omega, ⟨hc4, hs17_11, hc6⟩, hA1, hA2, hA3⟩; exact ⟨rfl, M.1⟩
     try simp only [sA] at hc6
     refine gc_skip ?_
     refine gk_block ?_
     refine gk_then (hK35 _ _ ?_)
     refine gc_region ?_
     refine gm ?_
     refine gv (qt_add rfl rfl rfl (by omega)) ?_
     refine gas ?_
     refine g_nil ?_
     refine gk_then (gk_take 1 ?_)
     refine gk_sub ?hs_42 (hKL32 (q + 1) ?hi_42 ?hm_42)
     case hs_42 => repeat first | exact sub_nil | refine sub_cons rfl ?_
     case hi_42 => exact ⟨by omega, all_next0 hA3 fun hb => hb.2.2 hc6⟩
     case hm_42 => omega
    try simp only [sA] at hs17_11
    refine gdsk ?_
    refine gdsk ?_
    refine gdsk ?_
    refine gdsk ?_
    refine gdsk ?_
    refine gdsk ?_
    refine gdsk ?_
    refine gdsk ?_
    refine gdsk ?_
    refine gdsk ?_
    refine gdsk ?_
    refine gdsk ?_
    refine gdsk ?_
    refine gdsk ?_
    refine gdsk ?_
    refine gdsk ?_
    refine gdsk ?_
    refine gdsk ?_
    refine gdsk ?_
    refine gdsk ?_
    refine gdsk ?_
    refine gdsk ?_
    refine gdsk ?_
    refine gdsk ?_
    refine gdsk ?_
    refine gdsk ?_
    refine gdsk ?_
    refine gdsk ?_
    refine gdsk ?_
    refine gdsk ?_
    refine gdsk ?_
    refine gdv (qt_pick_f rfl rfl rfl) ?_
    refine gd_nil ?_
    refine gk_then (hK36 _ _ ?_)
    refine gc_cond_f rfl ?_
    refine gc_skip ?_
    refine gk_block ?_
    refine gk_then (hK35 _ _ ?_)
    refine gc_region ?_
    refine gm ?_
    refine gv (qt_add rfl rfl rfl (by omega)) ?_
    refine gas ?_
    refine g_nil ?_
    refine gk_then (gk_take 1 ?_)
    refine gk_sub ?hs_43 (hKL32 (q + 1) ?hi_43 ?hm_43)
    case hs_43 => repeat first | exact sub_nil | refine sub_cons rfl ?_
    case hi_43 => exact ⟨by omega, all_next0 hA3 fun hb => hs17_11 hb.2.1⟩
    case hm_43 => omega
   try simp only [sA] at hc5
   refine gc_exit ?_
   refine gk_then_exit ?_
   refine gk_then_exit ?_
   refine gk_block_hit ?_
   refine gk_block ?_
   refine gk_then (hK27 _ _ ?_)
   refine gc_region ?_
   refine gm ?_
   refine gv (qt_add rfl rfl rfl (by omega)) ?_
   refine gas ?_
   refine g_nil ?_
   refine gk_then (gk_take 1 ?_)
   refine gk_sub ?hs_44 (hKL24 (g + 1) ?hi_44 ?hm_44)
   case hs_44 => repeat first | exact sub_nil | refine sub_cons rfl ?_
   case hi_44 => exact ⟨by omega, fun g' k' hg hk => by
   rcases Nat.lt_or_ge g' g with h1 | h1
   ·exact hA2 g' k' h1 hk
   ·obtain rfl : g' = g := by omega
    exact hA3 k' (by omega)⟩
   case hm_44 => omega
  try simp only [sA] at hc3
  refine gc_exit ?_
  refine gk_then_exit ?_
  refine gk_then_exit ?_
  refine gk_block_hit ?_
  refine gk_block ?_
  refine gk_then (hK22 _ _ ?_)
  refine gc_region ?_
  refine gm ?_
  refine gv (qt_add rfl rfl rfl (by omega)) ?_
  refine gas ?_
  refine g_nil ?_
  refine gk_then (gk_take 1 ?_)
  refine gk_sub ?hs_45 (hKL19 (p + 1) ?hi_45 ?hm_45)
  case hs_45 => repeat first | exact sub_nil | refine sub_cons rfl ?_
  case hi_45 => exact ⟨by omega, fun f' g' k' hf hg hk => by
   rcases Nat.lt_or_ge f' p with h1 | h1
   ·exact hA1 f' g' k' h1 hg hk
   ·obtain rfl : f' = p := by omega
    exact hA2 g' k' (by omega) hk⟩
  case hm_45 => omega
 try simp only [sA] at hc2
 refine gc_exit ?_
 refine gk_then_exit ?_
 refine gk_then_exit ?_
 refine gk_block_hit ?_
 refine gk_then (hK17 _ _ ?_)
 refine gc_sr fun K46 hK46 => ?_
 refine gas ?_
 refine gas ?_
 refine gas ?_
 refine gas ?_
 refine gnt (hK46 _ _ ?_)
 refine gc_ret ?_
 refine ret_4 rfl rfl rfl rfl rfl  (fun w M => ?_)
 obtain ⟨rfl, rfl, rfl, rfl⟩ := faultP_no hP NI (fun f' g' k' a b d => hA1 f' g' k' (by omega) b d); exact ⟨rfl, M.1⟩
end Go.Proofs.Ytbiplocgenppoaa
