
/- Hom sets and composites of paths: both sides. | Groupoids: both sides. -/
import Derived.Test.YtgkfampgofjkfaaShort
import Derived.Test.YtgkfampgofjkfaaComp
set_option linter.unusedSimpArgs false
set_option linter.unusedVariables false
set_option linter.unusedSectionVars false
namespace Go.Proofs.Ytgkfampgofjkfaa
open Go.RowKit


theorem objErr_facts {c : Cat} {xs : List Int} (h : objErr c xs = 0) : IsCat c ∧ AllP c.ob xs := objErr_0 h
noncomputable def fHomSet (c : Cat) (x y : Int) : List Int × Int := if objErr c [x, y] = 0 then (homTo c x y c.s.length, 0) else ([], objErr c [x, y])
theorem hom_err {c : Cat} {x y : Int} (h : ¬ objErr c [x, y] = 0) : fHomSet c x y = ([], objErr c [x, y]) := if_neg h
theorem hom_t {c : Cat} {x y : Int} (h : objErr c [x, y] = 0) : fHomSet c x y = (homTo c x y c.s.length, 0) := if_pos h
def pathGo (c : Cat) : Int → List Int → Int × Int
 | h, [] => (h, 0)
 | h, f :: r => if at0 c.t h = at0 c.s f then pathGo c (c.th h f) r else (0, 5)
noncomputable def fPathComposite (c : Cat) (x : Int) (path : List Int) : Int × Int :=
 if objErr c [x] = 0 then (if arrErr c path = 0 then pathGo c (at0 c.e x) path else (0, arrErr c path)) else (0, objErr c [x])
theorem path_o {c : Cat} {x : Int} {p : List Int} (h : ¬ objErr c [x] = 0) : fPathComposite c x p = (0, objErr c [x]) := if_neg h
theorem path_a {c : Cat} {x : Int} {p : List Int} (h : objErr c [x] = 0) (h' : ¬ arrErr c p = 0) : fPathComposite c x p = (0, arrErr c p) := by unfold fPathComposite; rw [if_pos h, if_neg h']
theorem path_t {c : Cat} {x : Int} {p : List Int} (h : objErr c [x] = 0) (h' : arrErr c p = 0) : fPathComposite c x p = pathGo c (at0 c.e x) p := by unfold fPathComposite; rw [if_pos h, if_pos h']
theorem drop_at {xs : List Int} {k : Nat} (h : k < xs.length) : xs.drop k = at0 xs (k : Int) :: xs.drop (k + 1) := by
 rw [at0_nat, List.drop_eq_getElem_cons h]; simp [List.getD_eq_getElem?_getD, List.getElem?_eq_getElem h]
theorem pathGo_t {c : Cat} {h : Int} {xs : List Int} {k : Nat} (hk : k < xs.length) (he : at0 c.t h = at0 c.s (at0 xs k)) : pathGo c h (xs.drop k) = pathGo c (c.th h (at0 xs k)) (xs.drop (k + 1)) := by
 rw [drop_at hk]; show (if _ then _ else _) = _; rw [if_pos he]
theorem pathGo_f {c : Cat} {h : Int} {xs : List Int} {k : Nat} (hk : k < xs.length) (he : ¬ at0 c.t h = at0 c.s (at0 xs k)) : pathGo c h (xs.drop k) = (0, 5) := by
 rw [drop_at hk]; show (if _ then _ else _) = _; rw [if_neg he]
theorem pathGo_end {c : Cat} {h : Int} {xs : List Int} : pathGo c h (xs.drop xs.length) = (h, 0) := by simp [pathGo]
theorem allP_get {n : Int} {xs : List Int} (h : AllP n xs) {k : Nat} (hk : k < xs.length) : 0 ≤ at0 xs (k : Int) ∧ at0 xs (k : Int) < n := allP_at h hk
structure PathI (c : Cat) (e0 : Int) (xs : List Int) (k : Nat) (h : Int) : Prop where
 kl : k ≤ xs.length
 h0 : 0 ≤ h
 h1 : h < c.s.length
 go : pathGo c h (xs.drop k) = pathGo c e0 xs
theorem pathI_next {c : Cat} (hS : ShapeP c) {e0 : Int} {xs : List Int} (hx : AllP c.s.length xs) {k : Nat} {h : Int} (H : PathI c e0 xs k h) (hk : k < xs.length) (he : at0 c.t h = at0 c.s (at0 xs k)) : PathI c e0 xs (k + 1) (c.th h (at0 xs k)) := by
 have hg := allP_get hx hk
 have hc := comp_arr hS H.h0 H.h1 hg.1 hg.2 he
 exact ⟨by omega, hc.1, hc.2, (pathGo_t hk he).symm.trans H.go⟩
theorem bP_f' {p : Prop} (h : bP p = false) : ¬ p := fun hp => by rw [bP_t hp] at h; cases h
theorem bP_t' {p : Prop} (h : bP p = true) : p := bP_iff.1 h

set_option maxHeartbeats 1000000 in
set_option maxRecDepth 100000 in
theorem arrowsBetween_any (w : World) (v : Value) (c : Cat) (x y : Int) (h : RdC w v c) (hS : ShapeP c) :
  Calls Try.prog 79 #[v, .agg #[.int .i64 x, .int .i64 y]] w (RetL w (homTo c x y c.s.length)) := by
 have h0 := h
 obtain ⟨va, vb, vc, vd, ve, vf, vg, vh, rfl, h1, h2, h3, h4, _⟩ := h.lists
 have hn40 := hS.n40; have htl := hS.tl
 go_enter Try.func79, Try.ntmps79
 refine gc_enter (N := 23) rfl (look_cons (k := 0) rfl (look_cons (k := 1) rfl (look_nil _))) ?_
 refine gc_sr fun K1 hK1 => ?_
 refine gop fun K3 hK3 => ?_
 refine go_box rfl rfl rfl rfl rfl ?_
 intro B2
 refine hK3 _ _ ?_
 refine gop fun K5 hK5 => ?_
 refine go_box rfl rfl rfl rfl rfl ?_
 intro B4
 refine hK5 _ _ ?_
 refine gas ?_
 refine gnt (hK1 _ _ ?_)
 refine gc_sr fun K6 hK6 => ?_
 refine gas ?_
 refine gnt (hK6 _ _ ?_)
 refine gc_seq fun K7 hK7 => ?_
 refine gc_seq fun K8 hK8 => ?_
 refine gc_nilS ?_
 refine gc_region ?_
 refine gv (qts Try.underlying27 (n := 0)) ?_
 refine g_q (.free rfl) rfl rfl (qt_call rfl Try.func42 rfl (by decide) rfl (fun w M => arrows_any w _ _ (mem_rdC M h0))) ?_
 refine gm ?_
 refine gnt (hK8 _ _ ?_)
 refine gc_block ?_
 try simp only [sL]
 refine gc_loopT ([(0, _), (1, _), (2, _), (3, _), (4, _), (8, _)] : Env) (fun s : Nat × (Option Addr) × Nat => (fun (k : Nat) (a : Option Addr) (q : Nat) => (([(5, .slice a (homTo c x y k).length q), (9, .int .i64 (k : Int))] : Env), ([(2, own1I (.slice a (homTo c x y k).length q) (homTo c x y k))] : List (Nat × Itm)), k ≤ c.s.length, c.s.length - k)) s.1 s.2.1 s.2.2) (0, _, _) (by repeat first | exact sub_nil | refine sub_cons rfl ?_) rfl (Nat.zero_le _) ?_
 rintro ⟨k, a, q⟩ hinv KL9 hKL9
 simp only [sU, sL] at hinv hKL9 ⊢
 have hk := hinv
 have hl := homTo_len c x y k
 refine gc_sr fun K10 hK10 => ?_
 refine gv (qt_lss rfl rfl rfl) ?_
 refine gnt (hK10 _ _ ?_)
 refine gc_seq fun K11 hK11 => ?_
 refine gc_cond rfl (fun hc0 => ?_) (fun hc0 => ?_)
 ·try simp only [sA] at hc0
  refine gc_skip ?_
  refine gk_then (hK11 _ _ ?_)
  refine gc_seq fun K12 hK12 => ?_
  refine gc_block ?_
  refine gc_sr fun K13 hK13 => ?_
  refine gm ?_
  refine gas ?_
  refine gnt (hK13 _ _ ?_)
  refine gc_seq fun K14 hK14 => ?_
  refine gc_draw (by kernel_rfl) ?_
  refine gdv (qts Try.underlying27 (n := 0)) ?_
  refine gdv (qt_move rfl rfl) ?_
  refine gd_q (.free rfl) rfl rfl (qt_call rfl Try.func78 rfl (by decide) rfl (fun w M => ends_any w _ _ _ (mem_rdC M h0) (by first | assumption | omega) (by first | assumption | omega) (by first | assumption | omega))) ?_
  refine gdv (qts Try.underlying84 (n := 1)) ?_
  refine gdv (qt_eqA rfl rfl rfl (fun w => eqA_arrowEnds _ _ _ _ w) eqG_arrowEnds) ?_
  refine gd_nil ?_
  refine gk_then (hK14 _ _ ?_)
  refine gc_cond rfl (fun hc1 => ?_) (fun hc1 => ?_)
  ·try simp only [sA] at hc1
   refine gc_region ?_
   refine gm ?_
   refine gm ?_
   refine gop fun K16 hK16 => ?_
   refine go_slice1 rfl rfl rfl rfl Try.underlying22 ?_
   intro B15
   refine hK16 _ _ ?_
   refine gop fun K18 hK18 => ?_
   refine go_append (n := 2) (m := 3) rfl rfl rfl Try.underlying22 rfl rfl rfl rfl (by omega) ?_
   intro va17 vc17
   refine hK18 _ _ ?_
   refine gas ?_
   refine g_nil ?_
   refine gk_block ?_
   refine gk_then (hK12 _ _ ?_)
   refine gc_region ?_
   refine gv (qt_add rfl rfl rfl (by omega)) ?_
   refine gm ?_
   refine g_nil ?_
   rw [← homTo_succ_t hc1.1 hc1.2]
   refine gk_then (gk_take 3 ?_)
   refine gk_sub ?hs_19 (hKL9 (k + 1, _, _) ?hi_19 ?hm_19)
   case hs_19 => repeat first | exact sub_nil | refine sub_cons rfl ?_
   case hi_19 => omega
   case hm_19 => omega
  ·try simp only [sA] at hc1
   refine gc_skip ?_
   refine gk_block ?_
   refine gk_then (hK12 _ _ ?_)
   refine gc_region ?_
   refine gv (qt_add rfl rfl rfl (by omega)) ?_
   refine gm ?_
   refine g_nil ?_
   rw [← homTo_succ_f hc1]
   refine gk_then (gk_take 3 ?_)
   refine gk_sub ?hs_20 (hKL9 (k + 1, _, _) ?hi_20 ?hm_20)
   case hs_20 => repeat first | exact sub_nil | refine sub_cons rfl ?_
   case hi_20 => omega
   case hm_20 => omega
 ·try simp only [sA] at hc0
  refine gc_exit ?_
  refine gk_then_exit ?_
  refine gk_then_exit ?_
  refine gk_block_hit ?_
  refine gk_then (hK7 _ _ ?_)
  refine gc_sr fun K21 hK21 => ?_
  refine gm ?_
  refine gas ?_
  refine gnt (hK21 _ _ ?_)
  refine gc_ret ?_
  refine ret_1 rfl rfl  (fun w M => ?_)
  obtain rfl : k = c.s.length := by omega
  exact ⟨_, rfl, mem_own1 (n := 2) M rfl, M.1⟩

theorem path_code {c : Cat} {x : Int} {xs : List Int} (h : ¬ arrErr c xs = 0) : fPathComposite c x xs = (0, arrErr c xs) := by
 by_cases ho : objErr c [x] = 0
 ·exact path_a ho h
 ·rw [path_o ho]
  cases hI : fIsCategory c with
  | false => rw [arrErr_f hI, objErr_f hI]
  | true =>
   have h1 : objErr c [x] = 2 := by
    by_cases hp : AllP c.ob [x]
    ·exact absurd (objErr_t hI hp) ho
    ·exact objErr_r hI hp
   have h2 : arrErr c xs = 2 := by
    by_cases hp : AllP c.s.length xs
    ·exact absurd (arrErr_t hI hp) h
    ·exact arrErr_r hI hp
   rw [h1, h2]
theorem isCat_b {c : Cat} (h : IsCat c) : fIsCategory c = true := bP_t h

end Go.Proofs.Ytgkfampgofjkfaa

namespace Go.Proofs.Ytgkfampgofjkfaa
open Go.RowKit


def RetBI (W : World) (b : Bool) (n : Int) (e : Ending) (w' : World) : Prop := e = .returned (.tuple #[.bool b, .int .i64 n]) ∧ Below W.heap.size W w'
theorem mem_homTo {c : Cat} {x y z : Int} {n : Nat} : z ∈ homTo c x y n ↔ ∃ j : Nat, j < n ∧ z = j ∧ at0 c.s j = x ∧ at0 c.t j = y := by
 simp only [homTo, List.mem_map, List.mem_filter, List.mem_range, decide_eq_true_eq]
 constructor
 ·rintro ⟨j, ⟨h1, h2, h3⟩, rfl⟩; exact ⟨j, h1, rfl, h2, h3⟩
 ·rintro ⟨j, h1, rfl, h2, h3⟩; exact ⟨j, ⟨h1, h2, h3⟩, rfl⟩
theorem homTo_at {c : Cat} {x y : Int} {n k : Nat} (hk : k < (homTo c x y n).length) : 0 ≤ at0 (homTo c x y n) k ∧ at0 (homTo c x y n) k < n ∧ at0 c.s (at0 (homTo c x y n) k) = x ∧ at0 c.t (at0 (homTo c x y n) k) = y := by
 have hm : at0 (homTo c x y n) k ∈ homTo c x y n := by rw [at0_nat]; exact mem_getD hk
 obtain ⟨j, h1, h2, h3, h4⟩ := mem_homTo.1 hm
 rw [h2]; exact ⟨by omega, by omega, h3, h4⟩
def invAt (c : Cat) (f g : Int) : Prop := c.th f g = at0 c.e (at0 c.s f) ∧ c.th g f = at0 c.e (at0 c.t f)
noncomputable def findGo (c : Cat) (f : Int) : List Int → Int
 | [] => -1
 | g :: r => @ite _ (invAt c f g) (Classical.propDecidable _) g (findGo c f r)
theorem findGo_t {c : Cat} {f : Int} {xs : List Int} {k : Nat} (hk : k < xs.length) (h : invAt c f (at0 xs k)) : findGo c f (xs.drop k) = at0 xs k := by
 rw [drop_at hk]; exact if_pos h
theorem findGo_f {c : Cat} {f : Int} {xs : List Int} {k : Nat} (hk : k < xs.length) (h : ¬ invAt c f (at0 xs k)) : findGo c f (xs.drop k) = findGo c f (xs.drop (k + 1)) := by
 rw [drop_at hk]; exact if_neg h
theorem findGo_end {c : Cat} {f : Int} {xs : List Int} : findGo c f (xs.drop xs.length) = -1 := by simp [findGo]
noncomputable def hasInv (c : Cat) (f : Int) : Prop := ∃ g ∈ homTo c (at0 c.t f) (at0 c.s f) c.s.length, invAt c f g
theorem findGo_neg {c : Cat} {f : Int} : ∀ {xs : List Int}, (∀ x ∈ xs, 0 ≤ x) → (findGo c f xs < 0 ↔ ¬ ∃ g ∈ xs, invAt c f g)
 | [], _ => by simp [findGo]
 | g :: r, h => by
  have ih := findGo_neg (c := c) (f := f) (xs := r) fun x hx => h x (List.mem_cons_of_mem _ hx)
  by_cases hi : invAt c f g
  ·have : findGo c f (g :: r) = g := if_pos hi
   rw [this]
   have := h g (List.mem_cons_self ..)
   constructor
   ·intro h2; omega
   ·intro h2; exact absurd ⟨g, List.mem_cons_self .., hi⟩ h2
  ·have : findGo c f (g :: r) = findGo c f r := if_neg hi
   rw [this, ih]
   constructor
   ·rintro h2 ⟨x, hx, hx2⟩
    rcases List.mem_cons.1 hx with rfl | hx
    ·exact hi hx2
    ·exact h2 ⟨x, hx, hx2⟩
   ·rintro h2 ⟨x, hx, hx2⟩
    exact h2 ⟨x, List.mem_cons_of_mem _ hx, hx2⟩
theorem inv_neg {c : Cat} {f : Int} : findGo c f (homTo c (at0 c.t f) (at0 c.s f) c.s.length) < 0 ↔ ¬ hasInv c f :=
 findGo_neg fun x hx => by obtain ⟨j, _, h, _⟩ := mem_homTo.1 hx; omega
theorem th_ends {c : Cat} (hS : ShapeP c) {f g : Int} (f0 : 0 ≤ f) (f1 : f < c.s.length) (g0 : 0 ≤ g) (g1 : g < c.s.length) (h : at0 c.t f = at0 c.s g) : (0 ≤ c.th f g ∧ c.th f g < c.s.length) ∧ at0 c.s (c.th f g) = at0 c.s f ∧ at0 c.t (c.th f g) = at0 c.t g := by
 obtain ⟨a, rfl⟩ := Int.eq_ofNat_of_zero_le f0
 obtain ⟨b, rfl⟩ := Int.eq_ofNat_of_zero_le g0
 exact (hS.co a b (by omega) (by omega)).1 h
theorem invAt_iff {c : Cat} (hS : ShapeP c) {f g : Int} (f0 : 0 ≤ f) (f1 : f < c.s.length) (g0 : 0 ≤ g) (g1 : g < c.s.length) (h : at0 c.s g = at0 c.t f) (h' : at0 c.t g = at0 c.s f) :
  invAt c f g ↔ at0 c.e (at0 c.s (c.th f g)) = c.th f g ∧ at0 c.e (at0 c.s (c.th g f)) = c.th g f := by
 rw [(th_ends hS f0 f1 g0 g1 h.symm).2.1, (th_ends hS g0 g1 f0 f1 h').2.1, h]
 exact ⟨fun ⟨a, b⟩ => ⟨a.symm, b.symm⟩, fun ⟨a, b⟩ => ⟨a.symm, b.symm⟩⟩
noncomputable def fIsGroupoid (c : Cat) : Bool × Int := if fIsCategory c = true then (bP (∀ f : Nat, f < c.s.length → hasInv c f), 0) else (false, 1)
theorem grp_f {c : Cat} (h : fIsCategory c = false) : fIsGroupoid c = (false, 1) := if_neg (by rw [h]; decide)
theorem grp_n {c : Cat} (h : fIsCategory c = true) {k : Nat} (hk : k < c.s.length) (hn : ¬ hasInv c k) : fIsGroupoid c = (false, 0) := by
 unfold fIsGroupoid; rw [if_pos h, bP_f fun ha => hn (ha k hk)]
theorem grp_t {c : Cat} (h : fIsCategory c = true) (ha : ∀ f : Nat, f < c.s.length → hasInv c f) : fIsGroupoid c = (true, 0) := by
 unfold fIsGroupoid; rw [if_pos h, bP_t ha]
theorem all_next {p : Nat → Prop} {k : Nat} (h : ∀ j, j < k → p j) (hk : p k) : ∀ j, j < k + 1 → p j := fun j hj => by
 rcases Nat.lt_or_ge j k with h1 | h1
 ·exact h j h1
 ·rw [show j = k from by omega]; exact hk

noncomputable def catErr (c : Cat) : Int := if fIsCategory c = true then 0 else 1
noncomputable def catCat (c : Cat) : Cat := if fIsCategory c = true then c else cat0
theorem catErr_0 {c : Cat} (h : catErr c = 0) : fIsCategory c = true := by
 unfold catErr at h
 cases hI : fIsCategory c with
 | true => rfl
 | false => rw [if_neg (by rw [hI]; decide)] at h; simp at h
theorem catErr_n {c : Cat} (h : ¬ catErr c = 0) : fIsCategory c = false ∧ catErr c = 1 := by
 unfold catErr at h ⊢
 cases hI : fIsCategory c with
 | true => exact absurd (if_pos hI) h
 | false => exact ⟨rfl, if_neg (by decide)⟩
theorem catCat_t {c : Cat} (h : catErr c = 0) : catCat c = c := if_pos (catErr_0 h)
theorem readCat_any (w : World) (v : Value) (c : Cat) (h : RdC w v c) : Calls Try.prog 38 #[v] w (RetCI w (catCat c) (catErr c)) := by
 cases hI : fIsCategory c with
 | false => rw [show catCat c = cat0 from if_neg (by rw [hI]; decide), show catErr c = 1 from if_neg (by rw [hI]; decide)]; exact readCategory_f w v c h hI
 | true => rw [show catCat c = c from if_pos hI, show catErr c = 0 from if_pos hI]; exact readCategory_t w v c h hI

end Go.Proofs.Ytgkfampgofjkfaa
