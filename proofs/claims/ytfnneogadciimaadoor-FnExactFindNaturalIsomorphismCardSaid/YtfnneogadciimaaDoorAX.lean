import Derived.Test.YtfnneogadciimaaDoorA1
import Derived.Test.YtfnneogadciimaaDoorA2
import Derived.Test.YtfnneogadciimaaDoorA3
import Derived.Test.YtfnneogadciimaaDoorA4
import Derived.Test.YtfnneogadciimaaDoorA5
import Derived.Test.YtfnneogadciimaaDoorA6
import Derived.Test.YtfnneogadciimaaDoorA7
import Derived.Test.YtfnneogadciimaaDoorA8
import Derived.Test.YtfnneogadciimaaDoorA9
import Derived.Test.YtfnneogadciimaaDoorA10
import Derived.Test.YtfnneogadciimaaDoorA11
import Derived.Test.YtfnneogadciimaaDoorA12
import Derived.Test.YtfnneogadciimaaDoorA13
import Derived.Test.YtfnneogadciimaaDoorA14
import Derived.Test.YtfnneogadciimaaDoorA15
import Derived.Test.YtfnneogadciimaaDoorA16
import Derived.Test.YtfnneogadciimaaDoorA17
import Derived.Test.YtfnneogadciimaaDoorA18
import Derived.Test.YtfnneogadciimaaDoorA19
import Derived.Test.YtfnneogadciimaaDoorA20
import Derived.Test.YtfnneogadciimaaDoorA21
import Derived.Test.YtfnneogadciimaaDoorA22
import Derived.Test.YtfnneogadciimaaDoorA23
import Derived.Test.YtfnneogadciimaaDoorA24
import Derived.WalkKit
import Derived.ProofKit
import Derived.OpenShut
import Derived.Handy
import Derived.Lib.Hide
import Derived.Deep.QuietTactic
import Derived.BigQuiet
import Derived.Carry
import Derived.SizedLaws
import Derived.ChangeSlices
import Derived.Deep.Matrix
import Derived.Maps.AppendAt
import Derived.Laws.Cover3
import Derived.RangeFuncNested

set_option linter.unusedSimpArgs false
set_option linter.unusedVariables false
set_option linter.unusedSectionVars false
namespace Go.Proofs.YtfnneogadciimaaDoor
open Go.RowKit
def RetLI (W : World) (xs : List Int) (c : Int) (e : Ending) (w' : World) : Prop := ∃ v, e = .returned (.tuple #[v, .int .i64 c]) ∧ Sl w' W.heap.size v xs ∧ Below W.heap.size W w'
end Go.Proofs.YtfnneogadciimaaDoor
namespace Go.Proofs.YtfnneogadciimaaDoor
open Go.RowKit
end Go.Proofs.YtfnneogadciimaaDoor
namespace Go.Proofs.YtfnneogadciimaaDoor
open Go.ChangeShapes Go.WideShapes Go.ChangeAt Go.RowKit
end Go.Proofs.YtfnneogadciimaaDoor
namespace Go.Proofs.YtfnneogadciimaaDoor
open Go.RowKit
end Go.Proofs.YtfnneogadciimaaDoor


set_option linter.unusedSimpArgs false
set_option linter.unusedVariables false
set_option linter.unusedSectionVars false
namespace Go.Proofs.YtfnneogadciimaaDoor
open Go.RowKit
section
variable {w0 : World} {is : List Itm} {ops : Array Oper} {Q : Exit → Act → World → Prop} {o : Oper} {rest : List Oper} {N : Frm} {e : Env} {v : Value} {d : Nat} {K : Act → World → Prop}
theorem lenA_U {n : Nat} {us : List Value} {xs : List (List Int)} (h : is[n]? = some (own2U v us xs)) {w : World} (M : Mem w0 w is) : LenA v xs.length := lenA_rd2 (mem_rdU M h)
theorem qt_loadU {x : Operand} {t : TypeId} {u : Value} {us : List Value} {xs : List (List Int)} {i : Int} {n : Nat} {td : TypeDesc} (hop : o.op = .load t x) (hx : evo e x = some (eltP u i)) (ht : Tryd.prog.underlying t = some td) (ha : aggT td = false)
    (hi : is[n]? = some (own2U u us xs)) (h0 : 0 ≤ i) (h1 : i < xs.length) : QV w0 is o e (us.getD i.toNat undef) := by
  intro w ρ M F
  have hx := F _ _ hx
  obtain ⟨S, _, hb⟩ := mem_2U M hi
  obtain ⟨hu, _, ⟨_, hor⟩, _⟩ := hb
  rcases hor with ⟨_, hn⟩ | ⟨g, cap, cur, hv, _, hg, hnc, hcm, hcs, htk⟩
  · omega
  · subst hv
    have hlt : i.toNat < us.length := by omega
    have hc : w.cell? ⟨g, 0 + i.toNat, none⟩ = some (us.getD i.toNat undef) := by
      rw [cell_of_row w g (0 + i.toNat) cur _ (0, 0) hg]
      have h2 : (cur.toList.take (xs.length * 1))[i.toNat]? = some (us.getD i.toNat undef) := by
        rw [htk]; simp [List.getD_eq_getElem?_getD, List.getElem?_eq_getElem hlt]
      rw [List.getElem?_take] at h2
      split at h2
      · simpa using h2
      · cases h2
    rw [Nat.zero_add] at hc
    simp [execOp, hop, hx, eltP, run_load1 ht ha hc]
end
section
variable {w0 : World} {is : List Itm} {ops : Array Oper} {Q : Exit → Act → World → Prop} {o : Oper} {rest : List Oper} {N : Frm} {e : Env} {v : Value} {d : Nat} {K : Act → World → Prop}
end
end Go.Proofs.YtfnneogadciimaaDoor
namespace Go.Proofs.YtfnneogadciimaaDoor
open Go.RowKit
section
variable {w0 : World} {is : List Itm} {ops : Array Oper} {Q : Exit → Act → World → Prop} {o : Oper} {rest : List Oper} {N : Frm} {e : Env} {v : Value} {d : Nat} {K : Act → World → Prop}
end
end Go.Proofs.YtfnneogadciimaaDoor
namespace Go.Proofs.YtfnneogadciimaaDoor
open Go.RowKit
section
variable {w0 : World} {is : List Itm} {ops : Array Oper} {Q : Exit → Act → World → Prop} {o : Oper} {rest : List Oper} {N : Frm} {e : Env} {v : Value} {d : Nat} {K : Act → World → Prop}
variable {f : FuncId} {fn : Func} {ags : Array Operand} {ts : Array TypeId} {vs : List Value}
theorem go_callLI1 {xs : List Int} {c : Int} (hd : o.dst = some d) (hN : Nat.blt d N = true) (hop : o.op = .call { callee := .value (.func f), args := ags, argTypes := ts }) (hfn : Tryd.prog.funcs[f]? = some fn) (hb : fn.body.isNone = false) (hn : (fn.name == "runtime.NumGoroutine") = false)
    (hargs : evoL e ags.toList = some vs) (hc : ∀ w, Mem w0 w is → Calls Tryd.prog f vs.toArray w (RetLI w xs c)) (hk : ∀ a cap, xs.length ≤ 17592186044415 → GK w0 (is ++ [own1I (.slice a xs.length cap) xs]) N K ((d, .tuple #[.slice a xs.length cap, .int .i64 c]) :: e)) : GO w0 is N o e Q K := by
  intro w a M F
  refine go_call hd hN F hop hfn hb hn hargs (hc w M) fun e' w' hR => ?_
  obtain ⟨v, rfl, hs, hbl⟩ := hR
  have hl := hs.2
  obtain ⟨va, vc, rfl, _⟩ := sl_form hs
  exact ⟨_, rfl, fun a F => hk va vc hl w' a (mem_new M hbl (own1_of hs)) F⟩
end
end Go.Proofs.YtfnneogadciimaaDoor


set_option linter.unusedSimpArgs false
set_option linter.unusedVariables false
set_option linter.unusedSectionVars false
namespace Go.Proofs.YtfnneogadciimaaDoor
open Go.RowKit
section
variable {w0 : World} {is is0 : List Itm} {ops : Array Oper} {Q : Exit → Act → World → Prop} {o : Oper} {rest : List Oper} {N : Frm} {e : Env} {v : Value} {d : Nat} {K : Act → World → Prop} {fuel : Nat} {listed : Array Bool}
theorem gov (hq : QV w0 is o e v) (hk : GK w0 is N K ((d, v) :: e)) (hd : o.dst = some d := by rfl) (hN : Nat.blt d N = true := by rfl) : GO w0 is N o e Q K := go_v hd hN hq hk
end
end Go.Proofs.YtfnneogadciimaaDoor


set_option linter.unusedSimpArgs false
set_option linter.unusedVariables false
set_option linter.unusedSectionVars false
namespace Go.Proofs.YtfnneogadciimaaDoor
open Go.RowKit
theorem drop_at {xs : List Int} {k : Nat} (h : k < xs.length) : xs.drop k = at0 xs (k : Int) :: xs.drop (k + 1) := by
 rw [at0_nat, List.drop_eq_getElem_cons h]; simp [List.getD_eq_getElem?_getD, List.getElem?_eq_getElem h]
end Go.Proofs.YtfnneogadciimaaDoor
namespace Go.Proofs.YtfnneogadciimaaDoor
open Go.RowKit
theorem findGo_t {c : Cat} {f : Int} {xs : List Int} {k : Nat} (hk : k < xs.length) (h : invAt c f (at0 xs k)) : findGo c f (xs.drop k) = at0 xs k := by
 rw [drop_at hk]; exact if_pos h
theorem findGo_f {c : Cat} {f : Int} {xs : List Int} {k : Nat} (hk : k < xs.length) (h : ¬ invAt c f (at0 xs k)) : findGo c f (xs.drop k) = findGo c f (xs.drop (k + 1)) := by
 rw [drop_at hk]; exact if_neg h
theorem findGo_end {c : Cat} {f : Int} {xs : List Int} : findGo c f (xs.drop xs.length) = -1 := by simp [findGo]
theorem findGo_neg {c : Cat} {f : Int} : ∀ {xs : List Int}, (∀ x ∈ xs, 0 ≤ x) → (findGo c f xs < 0 ↔ ¬ ∃ g ∈ xs, invAt c f g)
 | [], _ => by simp [findGo]
 | g :: r, h => by
  have ih := findGo_neg (c := c) (f := f) (xs := r) fun x hx => h x (List.mem_cons_of_mem _ hx)
  by_cases hi : invAt c f g
  ·have : findGo c f (g :: r) = g := if_pos hi
   rw [this]
   have := h g (List.mem_cons_self ..)
   constructor
   ·intro h2; omega
   ·intro h2; exact absurd ⟨g, List.mem_cons_self .., hi⟩ h2
  ·have : findGo c f (g :: r) = findGo c f r := if_neg hi
   rw [this, ih]
   constructor
   ·rintro h2 ⟨x, hx, hx2⟩
    rcases List.mem_cons.1 hx with rfl | hx
    ·exact hi hx2
    ·exact h2 ⟨x, hx, hx2⟩
   ·rintro h2 ⟨x, hx, hx2⟩
    exact h2 ⟨x, List.mem_cons_of_mem _ hx, hx2⟩
theorem inv_neg {c : Cat} {f : Int} : findGo c f (homTo c (at0 c.t f) (at0 c.s f) c.s.length) < 0 ↔ ¬ hasInv c f :=
 findGo_neg fun x hx => by obtain ⟨j, _, h, _⟩ := mem_homTo.1 hx; omega
end Go.Proofs.YtfnneogadciimaaDoor


set_option linter.unusedSimpArgs false
set_option linter.unusedVariables false
set_option linter.unusedSectionVars false
namespace Go.Proofs.YtfnneogadciimaaDoor
open Go.RowKit
section
variable {w0 : World} {is : List Itm} {Q : Exit → Act → World → Prop} {N : Frm} {e : Env}
section
variable {α β σ : Type} {g : Operand} {p gf : Nat} {assign body : Code} {fn : Func} {lb : List Value} {val : α → Value} {T : α → List Itm} {dec : α → β} {L : List β} {A B : List Itm}
  {ti : σ → List (Nat × Itm)} {inv : List α → σ → Prop} {invX : Code → List α → σ → Prop}
end
theorem gk_perm {K : Act → World → Prop} {js : List Itm} (h : is.Perm js) (hk : GK w0 js N K e) : GK w0 is N K e := fun w a M F => hk w a (mem_perm h M) F
end
end Go.Proofs.YtfnneogadciimaaDoor


set_option linter.unusedSimpArgs false
set_option linter.unusedVariables false
set_option linter.unusedSectionVars false
namespace Go.Proofs.YtfnneogadciimaaDoor
open Go.RowKit
def RetIB (W : World) (n : Int) (b : Bool) (e : Ending) (w' : World) : Prop := e = .returned (.tuple #[.int .i64 n, .bool b]) ∧ Below W.heap.size W w'
noncomputable def invZ (c : Cat) (f : Int) : Int := bif bP (hasInv c f) then findGo c f (homTo c (at0 c.t f) (at0 c.s f) c.s.length) else 0
theorem invZ_t {c : Cat} {f : Int} (h : hasInv c f) : invZ c f = findGo c f (homTo c (at0 c.t f) (at0 c.s f) c.s.length) := by unfold invZ; rw [bP_t h]; rfl
theorem invZ_f {c : Cat} {f : Int} (h : ¬ hasInv c f) : invZ c f = 0 := by unfold invZ; rw [bP_f h]; rfl
set_option maxHeartbeats 1000000 in
set_option maxRecDepth 100000 in
theorem inverse_any (w : World) (v : Value) (c : Cat) (f : Int) (h : RdC w v c) (hS : ShapeP c) (f0 : 0 ≤ f) (f1 : f < c.s.length) :
  Calls Tryd.prog 76 #[v, .int .i64 f] w (RetIB w (invZ c f) (bP (hasInv c f))) := by
 have h0 := h
 obtain ⟨va, vb, vc, vd, ve, vf, vg, vh, rfl, h1, h2, h3, h4, _⟩ := h.lists
 have hf := arrP hS f0 f1
 have e1 := hf.fs; have e2 := hf.ft; have e3 := hf.fm; have e4 := hf.s0; have e5 := hf.s1; have e6 := hf.t0; have e7 := hf.t1; have e8 := hf.row
 have hn40 := hS.n40; have htl := hS.tl; have hel := hS.el
 have hl := homTo_len c (at0 c.t f) (at0 c.s f) c.s.length
 go_enter Tryd.func76, Tryd.ntmps76
 refine gc_enter (N := 41) rfl (look_cons (k := 0) rfl (look_cons (k := 1) rfl (look_nil _))) ?_
 refine gc_sr fun K1 hK1 => ?_
 refine gop fun K3 hK3 => ?_
 refine go_box rfl rfl rfl rfl rfl ?_
 intro B2
 refine hK3 _ _ ?_
 refine gas ?_
 refine gas ?_
 refine gnt (hK1 _ _ ?_)
 refine gc_seq fun K4 hK4 => ?_
 refine gc_seq fun K5 hK5 => ?_
 try simp only [sL]
 refine ga_start _ (fun w M => M) ?_
 refine gav 0 rfl (qts Tryd.underlying30 (n := 0)) ?_
 refine gav 1 rfl (qtf Tryd.underlying30 (z := 0) (off := 2)) ?_
 refine gav 2 rfl (qtl Tryd.underlying22 (n := 0)) ?_
 refine gav 3 rfl (qt_move rfl rfl) ?_
 refine gav 4 rfl (qti (fun w M => lenA_rd h2)) ?_
 refine gav 5 rfl (qtd (fun w M => mem_rd M h2)) ?_
 refine gav 6 rfl (qtf Tryd.underlying30 (z := 0) (off := 1)) ?_
 refine gav 7 rfl (qtl Tryd.underlying22 (n := 0)) ?_
 refine gav 8 rfl (qt_move rfl rfl) ?_
 refine gav 9 rfl (qti (fun w M => lenA_rd h1)) ?_
 refine gav 10 rfl (qtd (fun w M => mem_rd M h1)) ?_
 refine gav 11 rfl (qt_build rfl rfl bt_arrowEnds) ?_
 refine gav 14 rfl (qt_move rfl rfl) ?_
 refine gao 12 fun K7 hK7 => ?_
 refine go_callL rfl rfl rfl Tryd.func104 rfl (by decide) rfl (fun w M => arrowsBetween_any w _ _ _ _ (mem_rdC M h0) (by first | assumption | omega)) ?_
 intro va6 vc6
 refine hK7 _ _ (fun w M => (mem_take 1 M :)) ?_
 refine gao 13 fun K8 hK8 => ?_
 refine gov (qln (fun w M => lenV_own1 (n := 1) rfl M)) ?_
 refine hK8 _ _ (fun w M => (mem_take 1 M :)) ?_
 refine ga_done (by kernel_rfl) ?_
 refine gk_then (hK5 _ _ ?_)
 refine gc_block ?_
 try simp only [sL]
 refine gc_loopT ([(0, _), (1, _), (2, _), (20, _), (21, _)] : Env) (fun s : Nat => (fun (k : Nat) => (([(22, .int .i64 (k : Int))] : Env), ([] : List (Nat × Itm)), k ≤ (homTo c (at0 c.t f) (at0 c.s f) c.s.length).length ∧ findGo c f ((homTo c (at0 c.t f) (at0 c.s f) c.s.length).drop k) = findGo c f (homTo c (at0 c.t f) (at0 c.s f) c.s.length), (homTo c (at0 c.t f) (at0 c.s f) c.s.length).length - k)) s) (0) (by repeat first | exact sub_nil | refine sub_cons rfl ?_) rfl ⟨Nat.zero_le _, rfl⟩ ?_
 rintro k hinv KL9 hKL9
 simp only [sU, sL] at hinv hKL9 ⊢
 obtain ⟨hk, hgo⟩ := hinv
 refine gc_sr fun K10 hK10 => ?_
 refine gv (qt_lss rfl rfl rfl) ?_
 refine gnt (hK10 _ _ ?_)
 refine gc_seq fun K11 hK11 => ?_
 refine gc_cond rfl (fun hc0 => ?_) (fun hc0 => ?_)
 ·try simp only [sA] at hc0
  refine gc_skip ?_
  refine gk_then (hK11 _ _ ?_)
  refine gc_seq fun K12 hK12 => ?_
  refine gc_block ?_
  refine gc_sr fun K13 hK13 => ?_
  refine gv (qti (fun w M => lenA_own1 (n := 1) rfl M)) ?_
  refine gv (qtd (fun w M => (mem_own1 (n := 1) M rfl).rd)) ?_
  refine gas ?_
  refine gnt (hK13 _ _ ?_)
  refine gc_seq fun K14 hK14 => ?_
  have hg := homTo_at (c := c) (x := at0 c.t f) (y := at0 c.s f) (n := c.s.length) (k := k) (by omega)
  have hA := arrP hS hg.1 hg.2.1
  have a1 := hA.f0; have a2 := hA.fs; have a3 := hA.fm; have a4 := hA.row
  refine gc_draw (by kernel_rfl) ?_
  refine gdv (qts Tryd.underlying30 (n := 0)) ?_
  refine gdv (qt_move rfl rfl) ?_
  refine gdv (qt_move rfl rfl) ?_
  refine gd_q (.free rfl) rfl rfl (qt_call rfl Tryd.func96 rfl (by decide) rfl (fun w M => then_any w _ _ _ _ (mem_rdC M h0) (by first | assumption | omega) (by first | assumption | omega) (by first | assumption | omega) (by first | assumption | omega))) ?_
  refine gdv (qts Tryd.underlying30 (n := 0)) ?_
  refine gdv (qt_move rfl rfl) ?_
  refine gdv (qt_move rfl rfl) ?_
  refine gd_q (.free rfl) rfl rfl (qt_call rfl Tryd.func96 rfl (by decide) rfl (fun w M => then_any w _ _ _ _ (mem_rdC M h0) (by first | assumption | omega) (by first | assumption | omega) (by first | assumption | omega) (by first | assumption | omega))) ?_
  refine gdv (qt_build rfl rfl bt_arrowPair) ?_
  refine gdv (qts Tryd.underlying30 (n := 0)) ?_
  refine gdv (qt_move rfl rfl) ?_
  refine gd_q (.free rfl) rfl rfl (qt_call rfl Tryd.func110 rfl (by decide) rfl (fun w M => units_any w _ _ _ (mem_rdC M h0) (hf))) ?_
  refine gdv (qt_eqA rfl rfl rfl (fun w => eqA_arrowPair _ _ _ _ w) eqG_arrowPair) ?_
  refine gd_nil ?_
  refine gk_then (hK14 _ _ ?_)
  refine gc_cond rfl (fun hc1 => ?_) (fun hc1 => ?_)
  ·try simp only [sA] at hc1
   refine gc_sr fun K15 hK15 => ?_
   refine gm ?_
   refine gas ?_
   refine gas ?_
   refine gnt (hK15 _ _ ?_)
   refine gc_ret ?_
   refine gk_block_ret ?_
   refine gk_then_ret ?_
   refine gk_then_ret ?_
   refine gk_block_ret ?_
   refine gk_then_ret ?_
   refine ret_2 rfl rfl rfl  (fun w M => ?_)
   have hh : hasInv c f := ⟨_, by rw [at0_nat]; exact mem_getD (by omega), hc1⟩
   rw [bP_t hh, invZ_t hh, ← hgo, findGo_t (by omega) hc1]; exact ⟨rfl, M.1⟩
  ·try simp only [sA] at hc1
   refine gc_skip ?_
   refine gk_block ?_
   refine gk_then (hK12 _ _ ?_)
   refine gc_region ?_
   refine gv (qt_add rfl rfl rfl (by omega)) ?_
   refine gm ?_
   refine g_nil ?_
   refine gk_then (gk_take 2 ?_)
   refine gk_sub ?hs_16 (hKL9 (k + 1) ?hi_16 ?hm_16)
   case hs_16 => repeat first | exact sub_nil | refine sub_cons rfl ?_
   case hi_16 => exact ⟨by omega, by rw [← hgo, findGo_f (by omega) hc1]⟩
   case hm_16 => omega
 ·try simp only [sA] at hc0
  refine gc_exit ?_
  refine gk_then_exit ?_
  refine gk_then_exit ?_
  refine gk_block_hit ?_
  refine gk_then (hK4 _ _ ?_)
  refine gc_sr fun K17 hK17 => ?_
  refine gas ?_
  refine gas ?_
  refine gnt (hK17 _ _ ?_)
  refine gc_ret ?_
  refine ret_2 rfl rfl rfl  (fun w M => ?_)
  obtain rfl : k = (homTo c (at0 c.t f) (at0 c.s f) c.s.length).length := by omega
  have hno : ¬ hasInv c f := inv_neg.1 (by rw [← hgo, findGo_end]; decide)
  rw [bP_f hno, invZ_f hno]; exact ⟨rfl, M.1⟩
set_option maxHeartbeats 1000000 in
set_option maxRecDepth 100000 in
theorem isInvertible_any (w : World) (v : Value) (c : Cat) (f : Int) (h : RdC w v c) (hS : ShapeP c) (f0 : 0 ≤ f) (f1 : f < c.s.length) :
  Calls Tryd.prog 51 #[v, .int .i64 f] w (RetB w (bP (hasInv c f))) := by
 have h0 := h
 obtain ⟨va, vb, vc, vd, ve, vf, vg, vh, rfl, h1, h2, h3, h4, _⟩ := h.lists
 go_enter Tryd.func51, Tryd.ntmps51
 refine gc_enter (N := 14) rfl (look_cons (k := 0) rfl (look_cons (k := 1) rfl (look_nil _))) ?_
 refine gc_sr fun K1 hK1 => ?_
 refine gop fun K3 hK3 => ?_
 refine go_box rfl rfl rfl rfl rfl ?_
 intro B2
 refine hK3 _ _ ?_
 refine gas ?_
 refine gnt (hK1 _ _ ?_)
 refine gc_sr fun K4 hK4 => ?_
 refine gv (qts Tryd.underlying30 (n := 0)) ?_
 refine gm ?_
 refine g_q (.free rfl) rfl rfl (qt_call rfl Tryd.func76 rfl (by decide) rfl (fun w M => inverse_any w _ _ _ (mem_rdC M h0) (by first | assumption | omega) (by first | assumption | omega) (by first | assumption | omega))) ?_
 refine gm ?_
 refine gv (qt_extract rfl rfl rfl) ?_
 refine gv (qt_extract rfl rfl rfl) ?_
 refine gas ?_
 refine gas ?_
 refine gnt (hK4 _ _ ?_)
 refine gc_sr fun K5 hK5 => ?_
 refine gm ?_
 refine gas ?_
 refine gnt (hK5 _ _ ?_)
 refine gc_ret ?_
 refine ret_1 rfl rfl  (fun w M => ?_)
 exact ⟨rfl, M.1⟩
end Go.Proofs.YtfnneogadciimaaDoor


set_option linter.unusedSimpArgs false
set_option linter.unusedVariables false
set_option linter.unusedSectionVars false
namespace Go.Proofs.YtfnneogadciimaaDoor
open Go.RowKit
theorem invN_neg {c : Cat} {f : Int} : invN c f < 0 ↔ ¬ hasInv c f := inv_neg
end Go.Proofs.YtfnneogadciimaaDoor


set_option linter.unusedSimpArgs false
set_option linter.unusedVariables false
set_option linter.unusedSectionVars false
namespace Go.Proofs.YtfnneogadciimaaDoor
open Go.RowKit
theorem retLI_n {w W : World} {c : Int} (hb : Below W.heap.size W w) : RetLI W [] c (.returned (.tuple #[.slice none 0 0, .int .i64 c])) w := ⟨_, rfl, Sl.nil _ _, hb⟩
theorem gc_form1 {w0 : World} {is : List Itm} {N : Frm} {Q : Exit → Act → World → Prop} {e : Env} {c : Code} {n : Nat} {v : Value} {xs : List Int} (h : is[n]? = some (own1I v xs)) (hk : ∀ a k, v = .slice a xs.length k → GC w0 is N c Q e) : GC w0 is N c Q e := fun w a M F R => by
  obtain ⟨x, k, hv⟩ := rd_form ((mem_own1 M h).rd)
  exact hk x k hv w a M F R
theorem gk_swap5 {w0 : World} {a0 a1 a2 a3 a4 a5 t x : Itm} {is : List Itm} {N : Frm} {K : Act → World → Prop} {e : Env} (hk : GK w0 (a0 :: a1 :: a2 :: a3 :: a4 :: x :: t :: a5 :: is) N K e) : GK w0 (a0 :: a1 :: a2 :: a3 :: a4 :: a5 :: t :: x :: is) N K e := by
  refine gk_perm ?_ hk
  have h : (a5 :: t :: x :: is).Perm (x :: t :: a5 :: is) := (List.Perm.swap ..).trans ((List.Perm.cons _ (List.Perm.swap ..)).trans (List.Perm.swap ..))
  exact .cons _ (.cons _ (.cons _ (.cons _ (.cons _ h))))
noncomputable def invK (F : Fct) (p : Int) : Bool := bP (hasInv F.T p)
noncomputable def fFindNaturalIsomorphism (F G : Fct) : List Int × Int := if parE F G = 0 then (match natL F G (invK F) with | [] => ([], 4) | l :: _ => (l, 0)) else ([], parE F G)
theorem fni_f {F G : Fct} (h : ¬ parE F G = 0) : fFindNaturalIsomorphism F G = ([], parE F G) := if_neg h
theorem fni_n {F G : Fct} (h : parE F G = 0) (h' : natL F G (invK F) = []) : fFindNaturalIsomorphism F G = ([], 4) := by unfold fFindNaturalIsomorphism; rw [if_pos h, h']
theorem fni_t {F G : Fct} {l : List Int} (h : parE F G = 0) (h' : [l] <+: natL F G (invK F)) : fFindNaturalIsomorphism F G = (l, 0) := by
  unfold fFindNaturalIsomorphism; rw [if_pos h]
  obtain ⟨t, ht⟩ := h'
  rw [← ht]; rfl
set_option maxHeartbeats 4000000 in
set_option maxRecDepth 100000 in
theorem impl_FndT (w : World) (v : Value) (F : Fct) (u : Value) (G : Fct) (h : RdF w v F) (e : RdF w u G) (hT : TabW w) :
    Calls Tryd.prog 28 #[v, u] w (RetLI w (fFindNaturalIsomorphism F G).1 (fFindNaturalIsomorphism F G).2) := by
  have h0 := h
  obtain ⟨vx1, vx2, vx3, vx4, vx5, vx6, vx7, vx8, vx9, vx10, vk1, vk2, vk3, vk4, vk5, vk6, vk7, vk8, vk9, vk10, rfl, h1, h2, h3, h4, h5, h6, h7, h8, h9, h10⟩ := h.lists
  have e0 := e
  obtain ⟨ux1, ux2, ux3, ux4, ux5, ux6, ux7, ux8, ux9, ux10, uk1, uk2, uk3, uk4, uk5, uk6, uk7, uk8, uk9, uk10, rfl, e1, e2, e3, e4, e5, e6, e7, e8, e9, e10⟩ := e.lists
  refine gc_enterK (nf := 22) (args := [_, _]) (mem_nil w) Tryd.func28 rfl rfl (Nat.le_of_ble_eq_true rfl) (look_cons (k := 0) rfl (look_cons (k := 1) rfl (look_nil _))) ?_
  refine gc_seqD fun K1 hK1 => ?_
  refine gc_region ?_
  refine g_op (.free rfl) fun K3 hK3 => ?_
  refine go_box rfl rfl rfl rfl rfl ?_
  intro B2
  refine hK3 _ _ ?_
  refine g_op (.free rfl) fun K5 hK5 => ?_
  refine go_box rfl rfl rfl rfl rfl ?_
  intro B4
  refine hK5 _ _ ?_
  refine g_op (.free rfl) fun K7 hK7 => ?_
  refine go_alloc (z := (.slice none 0 0)) (cs := [.slice none 0 0]) rfl rfl rfl (fun w => by kernel_rfl) rfl ?_
  intro B6
  refine hK7 _ _ ?_
  refine g_op (.free rfl) fun K9 hK9 => ?_
  refine go_alloc (z := (.int .i64 0)) (cs := [.int .i64 0]) rfl rfl rfl (fun w => by kernel_rfl) rfl ?_
  intro B8
  refine hK9 _ _ ?_
  refine g_nil ?_
  refine gk_then (hK1 _ _ ?_)
  refine gc_seqD fun K10 hK10 => ?_
  refine gc_seqD fun K11 hK11 => ?_
  refine gc_region ?_
  refine g_v (.free rfl) rfl rfl (qt_loadS (n := 1) rfl rfl Tryd.underlying45 rfl (by kernel_rfl) rfl) ?_
  refine g_v (.free rfl) rfl rfl (qt_loadS (n := 2) rfl rfl Tryd.underlying45 rfl (by kernel_rfl) rfl) ?_
  refine g_q (.free rfl) rfl rfl (qt_call rfl Tryd.func47 rfl (by decide) rfl (fun w M => checkPar_any w _ _ _ _ (mem_rdF M h0) (mem_rdF M e0))) ?_
  refine g_v (.free rfl) rfl rfl (qt_assign rfl rfl) ?_
  refine g_nil ?_
  refine gk_then (hK11 _ _ ?_)
  refine gc_seqD fun K12 hK12 => ?_
  refine gc_region ?_
  refine g_v (.free rfl) rfl rfl (qt_move rfl rfl) ?_
  refine g_v (.free rfl) rfl rfl (qt_neq rfl rfl rfl) ?_
  refine g_nil ?_
  refine gk_then (hK12 _ _ ?_)
  refine gc_cond rfl (fun hc0 => ?_) (fun hc0 => ?_)
  · try simp only [decide_eq_true_eq, decide_eq_false_iff_not, Bool.not_eq_true', Bool.not_eq_false', Bool.not_eq_eq_eq_not, Bool.not_true, Bool.not_false, ne_eq, Decidable.not_not, Classical.not_not] at hc0
    refine gc_seqD fun K13 hK13 => ?_
    refine gc_region ?_
    refine g_v (.free rfl) rfl rfl (qt_move rfl rfl) ?_
    refine g_op (.free rfl) fun K14 hK14 => ?_
    refine go_storeB (n := 3) rfl rfl rfl rfl (by kernel_rfl) rfl rfl rfl (by first | decide | simp) ?_
    refine hK14 _ _ ?_
    refine g_op (.free rfl) fun K15 hK15 => ?_
    refine go_storeB (n := 4) rfl rfl rfl rfl (by kernel_rfl) rfl rfl rfl (by first | decide | simp) ?_
    refine hK15 _ _ ?_
    refine g_nil ?_
    refine gk_then (hK13 _ _ ?_)
    refine gc_ret ?_
    refine gk_then_ret ?_
    try simp only [List.nil_append, List.cons_append, List.append_assoc, List.set_cons_succ, List.set_cons_zero]
    refine gk_marks (n := 0) rfl rfl ?_
    simp only [List.set_cons_zero, List.set_cons_succ]
    refine ret_c2 (n := 3) (n' := 4) rfl rfl rfl Tryd.underlying22 rfl Tryd.underlying2 rfl rfl rfl (fun w M => ?_)
    rw [fni_f hc0]; exact retLI_n M.1
  · try simp only [decide_eq_true_eq, decide_eq_false_iff_not, Bool.not_eq_true', Bool.not_eq_false', Bool.not_eq_eq_eq_not, Bool.not_true, Bool.not_false, ne_eq, Decidable.not_not, Classical.not_not] at hc0
    refine gc_skip ?_
    refine gk_then (hK10 _ _ ?_)
    refine gc_seqD fun K16 hK16 => ?_
    refine gc_seqD fun K17 hK17 => ?_
    have hz := parE_z hc0
    have hF := isf_of hz.1.1; have hG := isf_of hz.1.2; have hp := hz.2
    refine gc_nilS ?_
    refine gc_region ?_
    refine g_v (.free rfl) rfl rfl (qt_loadS (n := 1) rfl rfl Tryd.underlying45 rfl (by kernel_rfl) rfl) ?_
    refine g_v (.free rfl) rfl rfl (qt_loadS (n := 2) rfl rfl Tryd.underlying45 rfl (by kernel_rfl) rfl) ?_
    refine g_v (.free rfl) rfl rfl (qt_field (z := 4) (off := 5) rfl rfl Tryd.underlying45 rfl (by kernel_rfl) rfl) ?_
    refine g_v (.free rfl) rfl rfl (qt_loadP (n := 1) (z := 5) rfl rfl Tryd.underlying30 rfl (by kernel_rfl) rfl (by first | decide | exact Nat.le_refl _ | simp)) ?_
    refine g_v (.free rfl) rfl rfl (qt_makeFB2 rfl rfl) ?_
    refine g_op (.free rfl) fun K19 hK19 => ?_
    refine go_callNat rfl rfl rfl Tryd.func48 rfl (by decide) rfl (fun w M => natural_any w _ _ _ _ _ _ _ _ _ _ _ _ _ _ _ _ _ _ _ _ _ _ _ _ _ _ _ _ _ _ F _ G _ (invK F) ⟨_, _, _, rfl⟩ (mem_rdF M h0) (rdC_mk (mem_rd M h1) (mem_rd M h2) (mem_rd M h3) (mem_rd2 M h4)) (mem_rdF M e0) (hT.mem M) hF hG hp (fun w' hb p p0 p1 => callsV_f (bnd := [_]) (vs := [_]) (caps := []) Tryd.func51 rfl (by decide) (isInvertible_any w' _ F.T p (rdC_below (M.1.trans (hb.mono M.1.size)) (rdC_mk h5 h6 h7 h8)) (isCat_of hF.ct).toShapeP p0 p1))) ?_
    intro B18 D18 nv18 nc18 fs18 fx18 hok18
    refine hK19 _ _ ?_
    refine g_nil ?_
    refine gk_then (hK17 _ _ ?_)
    refine gc_block ?_
    refine gc_tab (n := 9) rfl (rdC_mk h1 h2 h3 h4) ?_
    try simp only [List.nil_append, List.cons_append, List.append_assoc, List.set_cons_succ, List.set_cons_zero]
    refine gc_rangeF (α := LV) (σ := Value × (List Int)) 5 rfl rfl Tryd.func60 rfl (by decide) rfl (nat_seq hT hF (by assumption)) (fun s : Value × (List Int) => (fun (sv : Value) (sl : List Int) => ([(2, bxI B6 22 [sv]), (4, own1I sv sl)] : List (Nat × Itm))) s.1 s.2) (fun (pre : List LV) => (fun s : Value × (List Int) => (fun (sv : Value) (sl : List Int) => pre = [] ∧ sv = .slice none 0 0 ∧ sl = []) s.1 s.2)) (fun (c : Code) (pre : List LV) => (fun s : Value × (List Int) => (fun (sv : Value) (sl : List Int) => c = .ret ∧ pre.map decL = [sl]) s.1 s.2)) (.slice none 0 0, []) ⟨rfl, rfl, rfl⟩ rfl rfl rfl ?_ ?_ ?_ ?_
    · rintro l20 r20 js20 pre ⟨xv, xl⟩ ⟨sv, sl⟩ hinv hpre Ka20 Kb20 hKp20 hKa20 hKn20 hKr20 hKe20
      simp only [updL, List.foldl_cons, List.foldl_nil, List.take_succ_cons, List.take_zero, List.drop_succ_cons, List.drop_zero, List.set_cons_succ, List.set_cons_zero, List.cons_append, List.nil_append] at hinv hKn20 hKr20 hKe20 ⊢
      obtain ⟨rfl, rfl, rfl⟩ := hinv
      refine gc_form1 (n := 7) rfl (fun xa xk hxv => ?_)
      dsimp only at hxv
      subst hxv
      refine gc_region ?_
      refine g_v (.free rfl) rfl rfl (qt_assign rfl rfl) ?_
      refine g_nil ?_
      try simp only [List.nil_append, List.cons_append, List.append_assoc, List.set_cons_succ, List.set_cons_zero]
      refine gk_then (hKa20 _ _ ?_)
      refine gc_block ?_
      refine gc_seqD fun K21 hK21 => ?_
      refine gc_region ?_
      refine g_v (.free rfl) rfl rfl (qt_move rfl rfl) ?_
      refine g_op (.free rfl) fun K22 hK22 => ?_
      refine go_storeB (n := 3) rfl rfl rfl rfl (by kernel_rfl) rfl rfl rfl (by first | decide | simp) ?_
      refine hK22 _ _ ?_
      refine g_op (.free rfl) fun K23 hK23 => ?_
      refine go_storeB (n := 4) rfl rfl rfl rfl (by kernel_rfl) rfl rfl rfl (by first | decide | simp) ?_
      refine hK23 _ _ ?_
      refine g_nil ?_
      refine gk_then (hK21 _ _ ?_)
      refine gc_ret ?_
      refine gk_block_ret ?_
      try simp only [List.nil_append, List.cons_append, List.append_assoc, List.set_cons_succ, List.set_cons_zero]
      refine gk_swap5 ?_
      try simp only [List.nil_append, List.cons_append, List.append_assoc, List.set_cons_succ, List.set_cons_zero]
      refine gk_take 7 ?_
      refine hKr20 ((_, _)) _ ?hi_24
      case hi_24 => exact ⟨by trivial, rfl⟩
    · rintro D20 xs ⟨sv, sl⟩ hL hinv
      simp only [updL, List.foldl_cons, List.foldl_nil, List.take_succ_cons, List.take_zero, List.drop_succ_cons, List.drop_zero, List.set_cons_succ, List.set_cons_zero, List.cons_append, List.nil_append] at *
      obtain ⟨rfl, rfl, rfl⟩ := hinv
      have hN : natL F G (invK F) = [] := hL.symm
      refine gk_block ?_
      refine gk_then (hK16 _ _ ?_)
      refine gc_seqD fun K25 hK25 => ?_
      refine gc_region ?_
      refine g_op (.free rfl) fun K26 hK26 => ?_
      refine go_storeB (n := 3) rfl rfl rfl rfl (by kernel_rfl) rfl rfl rfl (by first | decide | simp) ?_
      refine hK26 _ _ ?_
      refine g_op (.free rfl) fun K27 hK27 => ?_
      refine go_storeB (n := 4) rfl rfl rfl rfl (by kernel_rfl) rfl rfl rfl (by first | decide | simp) ?_
      refine hK27 _ _ ?_
      refine g_nil ?_
      refine gk_then (hK25 _ _ ?_)
      refine gc_ret ?_
      try simp only [List.nil_append, List.cons_append, List.append_assoc, List.set_cons_succ, List.set_cons_zero]
      refine gk_marks (n := 0) rfl rfl ?_
      simp only [List.set_cons_zero, List.set_cons_succ]
      refine ret_c2 (n := 3) (n' := 4) rfl rfl rfl Tryd.underlying22 rfl Tryd.underlying2 rfl rfl rfl (fun w M => ?_)
      rw [fni_n hc0 hN]; exact retLI_n M.1
    · rintro D20 pre ⟨sv, sl⟩ hL hinv
      simp only [updL, List.foldl_cons, List.foldl_nil, List.take_succ_cons, List.take_zero, List.drop_succ_cons, List.drop_zero, List.set_cons_succ, List.set_cons_zero, List.cons_append, List.nil_append] at *
      obtain ⟨_, hpr⟩ := hinv
      rw [hpr] at hL
      refine gk_block_ret ?_
      refine gk_then_ret ?_
      try simp only [List.nil_append, List.cons_append, List.append_assoc, List.set_cons_succ, List.set_cons_zero]
      refine gk_marks (n := 0) rfl rfl ?_
      simp only [List.set_cons_zero, List.set_cons_succ]
      refine ret_c2 (n := 3) (n' := 4) rfl rfl rfl Tryd.underlying22 rfl Tryd.underlying2 rfl rfl rfl (fun w M => ?_)
      rw [fni_t hc0 hL]; exact ⟨_, rfl, mem_own1 (n := 5) M rfl, M.1⟩
    · rintro D20 id pre ⟨sv, sl⟩ hL hinv; exact absurd hinv (by simp)
end Go.Proofs.YtfnneogadciimaaDoor


set_option linter.unusedSimpArgs false
set_option linter.unusedVariables false
set_option linter.unusedSectionVars false
namespace Go.Proofs.YtfnneogadciimaaDoor
open Go.RowKit
theorem kap_1 (F : Fct) : kapS F true = invK F := by
  funext p; unfold kapS invK
  by_cases h : hasInv F.T p
  · rw [bP_t h, decide_eq_true (Int.not_lt.1 fun h3 => invN_neg.1 h3 h)]; rfl
  · rw [bP_f h, decide_eq_false (by have := (invN_neg (c := F.T) (f := p)).2 h; omega)]; rfl
theorem find_1 {F G : Fct} {mo : Int} (hF : IsFct F) : findN F G true mo = (natL F G (invK F)).take mo.toNat := by unfold findN; rw [kap_1, nat_sol hF]
end Go.Proofs.YtfnneogadciimaaDoor


set_option linter.unusedSimpArgs false
set_option linter.unusedVariables false
set_option linter.unusedSectionVars false
namespace Go.Proofs.YtfnneogadciimaaDoor
open Go.RowKit
theorem sl_rowU {w0 w : World} {is : List Itm} {n i : Nat} {v : Value} {us : List Value} {rows : List (List Int)} (M : Mem w0 w is) (h : is[n]? = some (own2U v us rows)) (hi : i < rows.length) : Sl w w0.heap.size (us.getD i undef) (rows.getD i []) := by
  obtain ⟨S, hS, hb⟩ := mem_get M h
  have h4 := hb.2.2.2.1 i hi
  exact ⟨own_lift h4.1.1 fun q hq => hS q (h4.2.2 q hq), h4.1.2⟩
theorem find_nil {F G : Fct} (hF : IsFct F) (h : ((findN F G true 1).length : Int) = 0) : natL F G (invK F) = [] := by
  rw [find_1 hF, List.length_take] at h
  refine List.eq_nil_of_length_eq_zero ?_
  have : (1 : Int).toNat = 1 := rfl
  omega
theorem find_row {F G : Fct} (hF : IsFct F) (h : ¬ ((findN F G true 1).length : Int) = 0) : [(findN F G true 1).getD 0 []] <+: natL F G (invK F) := by
  rw [find_1 hF] at h ⊢
  show [((natL F G (invK F)).take 1).getD 0 []] <+: _
  have h : ¬ (((natL F G (invK F)).take 1).length : Int) = 0 := h
  cases hn : natL F G (invK F) with
  | nil => rw [hn] at h; simp at h
  | cons l t => exact ⟨t, rfl⟩
set_option maxHeartbeats 1000000 in
set_option maxRecDepth 100000 in
theorem spec_FndT (w : World) (v : Value) (F : Fct) (u : Value) (G : Fct) (h : RdF w v F) (e : RdF w u G) :
    Calls Tryd.prog 27 #[v, u] w (RetLI w (fFindNaturalIsomorphism F G).1 (fFindNaturalIsomorphism F G).2) := by
  have h0 := h
  obtain ⟨vx1, vx2, vx3, vx4, vx5, vx6, vx7, vx8, vx9, vx10, vk1, vk2, vk3, vk4, vk5, vk6, vk7, vk8, vk9, vk10, rfl, h1, h2, h3, h4, h5, h6, h7, h8, h9, h10⟩ := h.lists
  have e0 := e
  obtain ⟨ux1, ux2, ux3, ux4, ux5, ux6, ux7, ux8, ux9, ux10, uk1, uk2, uk3, uk4, uk5, uk6, uk7, uk8, uk9, uk10, rfl, e1, e2, e3, e4, e5, e6, e7, e8, e9, e10⟩ := e.lists
  go_enter Tryd.func27, Tryd.ntmps27
  refine gc_enter (N := 23) rfl (look_cons (k := 0) rfl (look_cons (k := 1) rfl (look_nil _))) ?_
  refine gc_seq fun K1 hK1 => ?_
  refine gc_region ?_
  refine g_op (.free rfl) fun K3 hK3 => ?_
  refine go_box rfl rfl rfl rfl rfl ?_
  intro B2
  refine hK3 _ _ ?_
  refine g_op (.free rfl) fun K5 hK5 => ?_
  refine go_box rfl rfl rfl rfl rfl ?_
  intro B4
  refine hK5 _ _ ?_
  refine g_v (.free rfl) rfl rfl (qt_assign rfl rfl) ?_
  refine g_v (.free rfl) rfl rfl (qt_assign rfl rfl) ?_
  refine g_nil ?_
  refine gk_then (hK1 _ _ ?_)
  refine gc_seq fun K6 hK6 => ?_
  refine gc_region ?_
  refine g_v (.free rfl) rfl rfl (qt_loadS (n := 0) rfl rfl Tryd.underlying45 rfl (by kernel_rfl) rfl) ?_
  refine g_v (.free rfl) rfl rfl (qt_loadS (n := 1) rfl rfl Tryd.underlying45 rfl (by kernel_rfl) rfl) ?_
  refine g_q (.free rfl) rfl rfl (qt_call rfl Tryd.func45 rfl (by decide) rfl (fun w M => specCode7_any w _ _ _ _ (mem_rdF M h0) (mem_rdF M e0))) ?_
  refine g_v (.free rfl) rfl rfl (qt_assign rfl rfl) ?_
  refine g_nil ?_
  refine gk_then (hK6 _ _ ?_)
  refine gc_seq fun K7 hK7 => ?_
  refine gc_seq fun K8 hK8 => ?_
  refine gc_region ?_
  refine g_v (.free rfl) rfl rfl (qt_move rfl rfl) ?_
  refine g_v (.free rfl) rfl rfl (qt_neq rfl rfl rfl) ?_
  refine g_nil ?_
  refine gk_then (hK8 _ _ ?_)
  refine gc_cond rfl (fun hc0 => ?_) (fun hc0 => ?_)
  · try simp only [decide_eq_true_eq, decide_eq_false_iff_not, Bool.not_eq_true', Bool.not_eq_false', Bool.not_eq_eq_eq_not, Bool.not_true, Bool.not_false, ne_eq, Decidable.not_not, Classical.not_not] at hc0
    refine gc_seq fun K9 hK9 => ?_
    refine gc_region ?_
    refine g_v (.free rfl) rfl rfl (qt_move rfl rfl) ?_
    refine g_v (.free rfl) rfl rfl (qt_assign rfl rfl) ?_
    refine g_v (.free rfl) rfl rfl (qt_assign rfl rfl) ?_
    refine g_nil ?_
    refine gk_then (hK9 _ _ ?_)
    refine gc_ret ?_
    refine gk_then_ret ?_
    refine ret_2 rfl rfl rfl  (fun w M => ?_)
    rw [fni_f hc0]; exact retLI_n M.1
  · try simp only [decide_eq_true_eq, decide_eq_false_iff_not, Bool.not_eq_true', Bool.not_eq_false', Bool.not_eq_eq_eq_not, Bool.not_true, Bool.not_false, ne_eq, Decidable.not_not, Classical.not_not] at hc0
    refine gc_skip ?_
    refine gk_then (hK7 _ _ ?_)
    refine gc_seq fun K10 hK10 => ?_
    have hz := parE_z hc0
    have hF := isf_of hz.1.1; have hG := isf_of hz.1.2; have hp := hz.2
    refine gc_region ?_
    refine g_v (.free rfl) rfl rfl (qt_loadS (n := 0) rfl rfl Tryd.underlying45 rfl (by kernel_rfl) rfl) ?_
    refine g_v (.free rfl) rfl rfl (qt_loadS (n := 1) rfl rfl Tryd.underlying45 rfl (by kernel_rfl) rfl) ?_
    refine g_op (.free rfl) fun K12 hK12 => ?_
    refine go_callR rfl rfl rfl Tryd.func50 rfl (by decide) rfl (fun w M => specFindA_any w _ _ _ _ _ _ (mem_rdF M h0) (mem_rdF M e0) (by first | assumption | omega) (by first | assumption | omega) (by first | assumption | omega) (by decide) (by decide)) ?_
    intro va11 vc11 us11
    refine hK12 _ _ ?_
    refine g_v (.free rfl) rfl rfl (qt_assign rfl rfl) ?_
    refine g_nil ?_
    refine gk_then (hK10 _ _ ?_)
    refine gc_seq fun K13 hK13 => ?_
    refine gc_seq fun K14 hK14 => ?_
    refine gc_region ?_
    refine g_v (.free rfl) rfl rfl (qt_move rfl rfl) ?_
    refine g_v (.free rfl) rfl rfl (qt_len rfl rfl ulE2 (fun w M => lenV_U (n := 2) rfl M)) ?_
    refine g_v (.free rfl) rfl rfl (qt_eql rfl rfl rfl) ?_
    refine g_nil ?_
    refine gk_then (hK14 _ _ ?_)
    refine gc_cond rfl (fun hc1 => ?_) (fun hc1 => ?_)
    · try simp only [decide_eq_true_eq, decide_eq_false_iff_not, Bool.not_eq_true', Bool.not_eq_false', Bool.not_eq_eq_eq_not, Bool.not_true, Bool.not_false, ne_eq, Decidable.not_not, Classical.not_not] at hc1
      refine gc_seq fun K15 hK15 => ?_
      refine gc_region ?_
      refine g_v (.free rfl) rfl rfl (qt_assign rfl rfl) ?_
      refine g_v (.free rfl) rfl rfl (qt_assign rfl rfl) ?_
      refine g_nil ?_
      refine gk_then (hK15 _ _ ?_)
      refine gc_ret ?_
      refine gk_then_ret ?_
      refine ret_2 rfl rfl rfl  (fun w M => ?_)
      rw [fni_n hc0 (find_nil hF hc1)]; exact retLI_n M.1
    · try simp only [decide_eq_true_eq, decide_eq_false_iff_not, Bool.not_eq_true', Bool.not_eq_false', Bool.not_eq_eq_eq_not, Bool.not_true, Bool.not_false, ne_eq, Decidable.not_not, Classical.not_not] at hc1
      refine gc_skip ?_
      refine gk_then (hK13 _ _ ?_)
      refine gc_seq fun K16 hK16 => ?_
      refine gc_region ?_
      refine g_v (.free rfl) rfl rfl (qt_move rfl rfl) ?_
      refine g_v (.free rfl) rfl rfl (qt_index rfl rfl rfl ulE2 szE2 (fun w M => lenA_U (n := 2) rfl M) (by omega) (by omega)) ?_
      refine g_v (.free rfl) rfl rfl (qt_loadU (n := 2) rfl rfl Tryd.underlying22 rfl rfl (by omega) (by omega)) ?_
      refine g_v (.free rfl) rfl rfl (qt_assign rfl rfl) ?_
      refine g_v (.free rfl) rfl rfl (qt_assign rfl rfl) ?_
      refine g_nil ?_
      refine gk_then (hK16 _ _ ?_)
      refine gc_ret ?_
      refine ret_2 rfl rfl rfl  (fun w M => ?_)
      rw [fni_t hc0 (find_row hF hc1)]
      exact ⟨_, rfl, sl_rowU (n := 2) (i := 0) M rfl (by omega), M.1⟩
theorem spec_FindNaturalIsomorphism (w : World) (v : Value) (F : Fct) (u : Value) (G : Fct) (h : RdF w v F) (e : RdF w u G) : Calls Tryd.prog 27 #[v, u] w (RetLI w (fFindNaturalIsomorphism F G).1 (fFindNaturalIsomorphism F G).2) := spec_FndT w v F u G h e
theorem impl_FindNaturalIsomorphism (w : World) (v : Value) (F : Fct) (u : Value) (G : Fct) (h : RdF w v F) (e : RdF w u G) (hT : TabW w) : Calls Tryd.prog 28 #[v, u] w (RetLI w (fFindNaturalIsomorphism F G).1 (fFindNaturalIsomorphism F G).2) := impl_FndT w v F u G h e hT
end Go.Proofs.YtfnneogadciimaaDoor
