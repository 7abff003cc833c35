import Derived.Test.YtpfcfhjpgngneacP11
import Derived.Test.YtpfcfhjpgngneacP10
import Derived.Test.YtpfcfhjpgngneacP4
set_option linter.unusedSimpArgs false
set_option linter.unusedVariables false
set_option linter.unusedSectionVars false
namespace Go.Proofs.Ytpfcfhjpgngneac
open Go.RowKit
theorem allP_ext {n : Int} {l : List Int} (h : ∀ k : Nat, k < l.length → 0 ≤ at0 l (k : Int) ∧ at0 l (k : Int) < n) : AllP n l := fun x hx => by
  obtain ⟨k, hk, rfl⟩ := List.getElem_of_mem hx
  have := h k hk
  rw [at0_nat, List.getD_eq_getElem?_getD, List.getElem?_eq_getElem hk] at this
  exact this
theorem shape_by {c : Cat} {N m : Nat} {S T E : Nat → Int} {M : Nat → Nat → Int} (hob : c.ob = (N : Int)) (hn : N ≤ 8) (hm : m ≤ 40) (ls : c.s.length = m) (lt : c.t.length = m) (le : c.e.length = N) (lm : c.m.length = m)
    (lr : ∀ f : Nat, f < m → (row2 c.m (f : Int)).length = m) (hS : ∀ f : Nat, f < m → at0 c.s (f : Int) = S f) (hT : ∀ f : Nat, f < m → at0 c.t (f : Int) = T f) (hE : ∀ x : Nat, x < N → at0 c.e (x : Int) = E x) (hM : ∀ f g : Nat, f < m → g < m → at0 (row2 c.m (f : Int)) (g : Int) = M f g)
    (rS : ∀ f : Nat, f < m → 0 ≤ S f ∧ S f < N) (rT : ∀ f : Nat, f < m → 0 ≤ T f ∧ T f < N) (hid : ∀ x : Nat, x < N → 0 ≤ E x ∧ E x < m ∧ S (E x).toNat = x ∧ T (E x).toNat = x)
    (hco : ∀ f g : Nat, f < m → g < m → (T f = S g → 0 ≤ M f g ∧ M f g < m ∧ S (M f g).toNat = S f ∧ T (M f g).toNat = T g) ∧ (T f ≠ S g → M f g = -1)) : ShapeP c where
  ob0 := by omega
  ob8 := by omega
  n40 := by omega
  el := by omega
  tl := by omega
  ml := by omega
  rl j hj := by
    have := lr j (by omega)
    rw [row2_of, Int.toNat_natCast] at this
    omega
  sa := allP_ext fun k hk => by rw [hS k (by omega), hob]; exact rS k (by omega)
  ta := allP_ext fun k hk => by rw [hT k (by omega), hob]; exact rT k (by omega)
  id x hx := by
    have h := hid x (by omega)
    have hk : ((E x).toNat : Int) = E x := Int.toNat_of_nonneg h.1
    unfold okIdent Cat.arr
    rw [hE x (by omega), ls]
    refine ⟨⟨h.1, h.2.1⟩, ?_, ?_⟩
    · rw [← hk, hS _ (by omega)]; exact h.2.2.1
    · rw [← hk, hT _ (by omega)]; exact h.2.2.2
  co f g hf hg := by
    have h := hco f g (by omega) (by omega)
    unfold okComp Cat.arr Cat.th
    rw [hM f g (by omega) (by omega), hS f (by omega), hS g (by omega), hT f (by omega), hT g (by omega), ls]
    refine ⟨fun he => ?_, h.2⟩
    have h := h.1 he
    have hk : ((M f g).toNat : Int) = M f g := Int.toNat_of_nonneg h.1
    refine ⟨⟨h.1, h.2.1⟩, ?_, ?_⟩
    · rw [← hk, hS _ (by omega)]; exact h.2.2.1
    · rw [← hk, hT _ (by omega)]; exact h.2.2.2
theorem shape_id {c : Cat} (hS : ShapeP c) {x : Nat} (hx : x < c.e.length) : ∃ k : Nat, at0 c.e (x : Int) = (k : Int) ∧ k < c.s.length ∧ at0 c.s (k : Int) = x ∧ at0 c.t (k : Int) = x := by
  obtain ⟨⟨h0, h1⟩, h2, h3⟩ := hS.id x hx
  obtain ⟨k, hk⟩ := Int.eq_ofNat_of_zero_le h0
  rw [hk] at h1 h2 h3
  exact ⟨k, hk, by omega, h2, h3⟩
theorem shape_co {c : Cat} (hS : ShapeP c) {f g : Nat} (hf : f < c.s.length) (hg : g < c.s.length) (h : at0 c.t (f : Int) = at0 c.s (g : Int)) : ∃ k : Nat, at0 (row2 c.m (f : Int)) (g : Int) = (k : Int) ∧ k < c.s.length ∧ at0 c.s (k : Int) = at0 c.s (f : Int) ∧ at0 c.t (k : Int) = at0 c.t (g : Int) := by
  obtain ⟨⟨h0, h1⟩, h2, h3⟩ := (hS.co f g hf hg).1 h
  obtain ⟨k, hk⟩ := Int.eq_ofNat_of_zero_le h0
  rw [hk] at h1 h2 h3
  exact ⟨k, hk, by omega, h2, h3⟩
theorem opp_shape {c : Cat} (hS : ShapeP c) : ShapeP (oppM c) := by
  have ob0 := hS.ob0; have ob8 := hS.ob8; have n40 := hS.n40; have el := hS.el; have tl := hS.tl
  refine shape_by (N := c.ob.toNat) (m := c.s.length) (S := fun f => at0 c.t (f : Int)) (T := fun f => at0 c.s (f : Int)) (E := fun x => at0 c.e (x : Int)) (M := fun f g => at0 (row2 c.m (g : Int)) (f : Int)) (by show c.ob = _; omega) (by omega) n40 tl rfl (by show c.e.length = _; omega) (rowsTo_len _ _)
    (fun f hf => by show (row2 (rowsTo _ _) _).length = _; rw [rowsTo_at _ hf, tabTo_len]) (fun f hf => rfl) (fun f hf => rfl) (fun x hx => rfl) (fun f g hf hg => by show at0 (row2 (rowsTo _ _) _) _ = _; rw [rowsTo_at _ hf, tabTo_at _ hg]; rfl)
    (fun f hf => by have := allP_at hS.ta (k := f) (by omega); omega) (fun f hf => by have := allP_at hS.sa (k := f) (by omega); omega) (fun x hx => ?_) (fun f g hf hg => ?_)
  · obtain ⟨k, hk, h1, h2, h3⟩ := shape_id hS (x := x) (by omega)
    rw [hk, Int.toNat_natCast]
    exact ⟨by omega, by omega, h3, h2⟩
  · refine ⟨fun he => ?_, fun he => ?_⟩
    · obtain ⟨k, hk, h1, h2, h3⟩ := shape_co hS hg hf he.symm
      rw [hk, Int.toNat_natCast]
      exact ⟨by omega, by omega, h3, h2⟩
    · exact (hS.co g f hg hf).2 fun e => he e.symm
end Go.Proofs.Ytpfcfhjpgngneac
set_option linter.unusedSimpArgs false
set_option linter.unusedVariables false
set_option linter.unusedSectionVars false
namespace Go.Proofs.Ytpfcfhjpgngneac
open Go.RowKit
def CallsV (v : Value) (vs : List Value) (w : World) (R : Ending → World → Prop) : Prop :=
  ∃ (f : FuncId) (us : Array Value), ((Deferred.ofValue v vs.toArray >>= fun d => invoke d.target d.args : Sem Next).run Try.prog w = .ok (.enter f us) w) ∧ Calls Try.prog f us w R
theorem callsV_f {f : FuncId} {fn : Func} {bnd vs caps : List Value} {w : World} {R : Ending → World → Prop} (hfn : Try.prog.funcs[f]? = some fn) (hb : fn.body.isNone = false) (hn : (fn.name == "runtime.NumGoroutine") = false)
    (hc : Calls Try.prog f (bnd ++ vs ++ caps).toArray w R) : CallsV (.func (.func f) bnd.toArray caps.toArray) vs w R := by
  refine ⟨f, (bnd ++ vs ++ caps).toArray, ?_, hc⟩
  have hb' : ¬ fn.body = none := fun h => by rw [h] at hb; simp at hb
  have hn' : ¬ fn.name = "runtime.NumGoroutine" := by simpa using hn
  simp [Deferred.ofValue, invoke, callFunc, hfn, hn', hb']
section
variable {w0 : World} {is : List Itm} {ops : Array Oper} {Q : Exit → Act → World → Prop} {o : Oper} {N : Nat} {e : Env} {v u : Value} {d : Nat} {K : Act → World → Prop} {f : FuncId} {fn : Func} {ags : Array Operand} {ts : Array TypeId} {vs : List Value}
theorem run_enterV {x : Operand} {R : Ending → World → Prop} (hop : o.op = .call { callee := .value x, args := ags, argTypes := ts }) (hx : evo e x = some u) (hargs : evoL e ags.toList = some vs) {w : World} {a : Act} (F : Fit N e a) (hc : CallsV u vs w R) :
    ∃ f us, (execOp a.eval o).run Try.prog w = .ok (.enter f us) w ∧ Calls Try.prog f us w R := by
  obtain ⟨f, us, h1, h2⟩ := hc
  refine ⟨f, us, ?_, h2⟩
  have ha : ags.map a.eval = vs.toArray := by
    have := fit_evals F hargs
    rw [← this]; apply Array.toList_inj.1; simp
  have hx' := fit_eval F hx
  simp only [execOp, hop, resolve, hx', ha]
  exact h1
theorem qt_callV {x : Operand} (hop : o.op = .call { callee := .value x, args := ags, argTypes := ts }) (hx : evo e x = some u) (hargs : evoL e ags.toList = some vs)
    (hc : ∀ w, Mem w0 w is → CallsV u vs w (fun e w' => e = .returned v ∧ Below w.heap.size w w')) : QT w0 is N o e v := by
  intro w ac M F
  unfold Oper.quietAt
  obtain ⟨f, us, h1, h2⟩ := run_enterV hop hx hargs F (hc w M)
  rw [h1]
  exact ⟨rfl, h2.mono fun e w' h => ⟨h.1, mem_keep M h.2⟩⟩
end
def IsFn (v : Value) : Prop := ∃ (f : Fn) (a b : Array Value), v = .func f a b
theorem IsFn.cells {v : Value} (h : IsFn v) : v.cells = #[v] := by obtain ⟨f, a, b, rfl⟩ := h; rfl
theorem IsFn.one {v : Value} (h : IsFn v) : v.oneCell' = true := by obtain ⟨f, a, b, rfl⟩ := h; rfl
section
variable {w0 : World} {is : List Itm} {ops : Array Oper} {Q : Exit → Act → World → Prop} {o : Oper} {N : Nat} {e : Env} {v u : Value} {d : Nat} {K : Act → World → Prop} {f : FuncId} {fn : Func} {ags : Array Operand} {ts : Array TypeId} {vs : List Value}
end
section
variable {w0 : World} {is : List Itm} {Q : Exit → Act → World → Prop} {o : Oper} {N : Nat} {e : Env} {v u : Value} {d : Nat} {K : Act → World → Prop}
end
section
variable {w0 : World} {is : List Itm} {o : Oper} {e : Env}
end
theorem RdC.l1 {w : World} {c : Cat} {o a b d m : Value} (h : RdC w (.agg #[o, a, b, d, m]) c) : Rd w a c.s := by obtain ⟨vs, vt, ve, vm, hv, h1, h2, h3, h4⟩ := h; simp only [Value.agg.injEq, Array.mk.injEq, List.cons.injEq] at hv; obtain ⟨_, rfl, rfl, rfl, rfl, _⟩ := hv; exact h1
end Go.Proofs.Ytpfcfhjpgngneac
set_option linter.unusedSimpArgs false
set_option linter.unusedVariables false
set_option linter.unusedSectionVars false
namespace Go.Proofs.Ytpfcfhjpgngneac
open Go.RowKit
theorem grid_div {m a b : Nat} (h : b < m) : (m * a + b) / m = a := by
  rw [Nat.mul_add_div (by omega), Nat.div_eq_of_lt h, Nat.add_zero]
theorem grid_mod {m a b : Nat} (h : b < m) : (m * a + b) % m = b := by
  rw [Nat.mul_add_mod, Nat.mod_eq_of_lt h]
theorem grid_le {n m a b : Nat} (ha : a < n) (hb : b ≤ m) : m * a + b ≤ m * n := by
  have h1 : m * (a + 1) ≤ m * n := Nat.mul_le_mul_left _ ha
  rw [Nat.mul_succ] at h1; omega
theorem grid_divlt {n m k : Nat} (h : k < m * n) : k / m < n := Nat.div_lt_of_lt_mul h
theorem grid_modlt {n m k : Nat} (h : k < m * n) : k % m < m := by
  refine Nat.mod_lt _ ?_
  rcases Nat.eq_zero_or_pos m with h0 | h0
  · subst h0; simp at h
  · exact h0
theorem grid_eq (k m : Nat) : m * (k / m) + k % m = k := Nat.div_add_mod k m
theorem mix_inj {a b x y n : Int} (hx : 0 ≤ x ∧ x < n) (hy : 0 ≤ y ∧ y < n) (h : a * n + x = b * n + y) : a = b ∧ x = y := by
  have hn : n ≠ 0 := by omega
  have h1 : (x + a * n) / n = a := by rw [Int.add_mul_ediv_right _ _ hn, Int.ediv_eq_zero_of_lt hx.1 hx.2, Int.zero_add]
  have h2 : (y + b * n) / n = b := by rw [Int.add_mul_ediv_right _ _ hn, Int.ediv_eq_zero_of_lt hy.1 hy.2, Int.zero_add]
  have h3 : a = b := by rw [← h1, ← h2]; congr 1; omega
  subst h3
  exact ⟨rfl, by omega⟩
def tab2 (φ : Nat → Nat → Int) (m a b : Nat) : List Int := tabTo (fun k => φ (k / m) (k % m)) (m * a + b)
theorem tab2_succ {φ : Nat → Nat → Int} {m a b : Nat} (h : b < m) : tab2 φ m a b ++ [φ a b] = tab2 φ m a (b + 1) := by
  unfold tab2; rw [← Nat.add_assoc, ← tabTo_succ, grid_div h, grid_mod h]
theorem tab2_row (φ : Nat → Nat → Int) (m a : Nat) : tab2 φ m a m = tab2 φ m (a + 1) 0 := rfl
theorem tab2_len (φ : Nat → Nat → Int) (m a b : Nat) : (tab2 φ m a b).length = m * a + b := tabTo_len _ _
theorem tab2_at (φ : Nat → Nat → Int) {n m i : Nat} (h : i < m * n) : at0 (tab2 φ m n 0) (i : Int) = φ (i / m) (i % m) := tabTo_at _ (by omega)
def rows2 (ψ : Nat → Nat → List Int) (m a b : Nat) : List (List Int) := rowsTo (fun k => ψ (k / m) (k % m)) (m * a + b)
theorem rows2_succ {ψ : Nat → Nat → List Int} {m a b : Nat} (h : b < m) : rows2 ψ m a b ++ [ψ a b] = rows2 ψ m a (b + 1) := by
  unfold rows2; rw [← Nat.add_assoc, ← rowsTo_succ, grid_div h, grid_mod h]
theorem rows2_row (ψ : Nat → Nat → List Int) (m a : Nat) : rows2 ψ m a m = rows2 ψ m (a + 1) 0 := by unfold rows2; rfl
theorem rows2_len (ψ : Nat → Nat → List Int) (m a b : Nat) : (rows2 ψ m a b).length = m * a + b := rowsTo_len _ _
theorem rows2_at (ψ : Nat → Nat → List Int) {n m i : Nat} (h : i < m * n) : row2 (rows2 ψ m n 0) (i : Int) = ψ (i / m) (i % m) := rowsTo_at _ (by omega)
section
variable {w0 : World} {is : List Itm} {o : Oper} {e : Env}
end
section
variable {w0 : World} {is : List Itm} {Q : Exit → Act → World → Prop} {o : Oper} {N : Nat} {e : Env} {v : Value} {d : Nat} {K : Act → World → Prop} {f : FuncId} {fn : Func} {ags : Array Operand} {ts : Array TypeId} {vs : List Value}
end
end Go.Proofs.Ytpfcfhjpgngneac
set_option linter.unusedSimpArgs false
set_option linter.unusedVariables false
set_option linter.unusedSectionVars false
namespace Go.Proofs.Ytpfcfhjpgngneac
open Go.RowKit
section
variable {w0 : World} {is : List Itm} {ops : Array Oper} {Q : Exit → Act → World → Prop} {o : Oper} {rest : List Oper} {N n m : Nat} {e : Env} {v u : Value} {d : Nat} {K : Act → World → Prop} {f : FuncId} {fn : Func} {ags : Array Operand} {ts : Array TypeId} {vs : List Value}
end
end Go.Proofs.Ytpfcfhjpgngneac
set_option linter.unusedSimpArgs false
set_option linter.unusedVariables false
set_option linter.unusedSectionVars false
namespace Go.Proofs.Ytpfcfhjpgngneac
open Go.RowKit
def RowOk (rows : List (List Int)) (b : Int) (i : Nat) : Prop := (row2 rows (i : Int)).length = rows.length ∧ AllP b (row2 rows (i : Int))
def SquareP (rows : List (List Int)) (b : Int) : Prop := ∀ i : Nat, i < rows.length → RowOk rows b i
theorem sq_at {rows : List (List Int)} {b : Int} (h : SquareP rows b) {i j : Nat} (hi : i < rows.length) (hj : j < rows.length) : 0 ≤ at0 (row2 rows (i : Int)) (j : Int) ∧ at0 (row2 rows (i : Int)) (j : Int) < b :=
 allP_at (h i hi).2 (by rw [(h i hi).1]; exact hj)
def FitP (c : Cat) : Prop := c.ob ≤ 8 ∧ c.s.length ≤ 40
set_option maxHeartbeats 1000000 in
set_option maxRecDepth 100000 in
theorem specFits_any (w : World) (v : Value) (c : Cat) (h : RdC w v c) :
  Calls Try.prog 157 #[v] w (RetB w (bP (FitP c))) := by
 have h0 := h
 obtain ⟨va, vb, vc, vd, ve, vf, vg, vh, rfl, h1, h2, h3, h4, _⟩ := h.lists
 go_enter Try.func157, Try.ntmps157
 refine gc_enter (N := 12) rfl (look_cons (k := 0) rfl (look_nil _)) ?_
 refine gc_sr fun K1 hK1 => ?_
 refine gop fun K3 hK3 => ?_
 refine go_box rfl rfl rfl rfl rfl ?_
 intro B2
 refine hK3 _ _ ?_
 refine gas ?_
 refine gnt (hK1 _ _ ?_)
 refine gc_sr fun K4 hK4 => ?_
 refine gv (qtf Try.underlying27 (z := 0) (off := 0)) ?_
 refine gv (qtl Try.underlying2 (n := 0)) ?_
 refine gv (qt_leq rfl rfl rfl) ?_
 refine g_splitv (.free rfl) rfl rfl (qt_move rfl rfl) (fun hs1_3 => ?_) (fun hs1_3 => ?_)
 ·try simp only [sA] at hs1_3
  refine gvh (qtf Try.underlying27 (z := 0) (off := 1)) ?_
  refine gvh (qtl Try.underlying24 (n := 0)) ?_
  refine gvh (qln (fun w M => lenV_rd h1)) ?_
  refine gvh (qt_leq rfl rfl rfl) ?_
  refine gv (qt_pick_t rfl rfl rfl) ?_
  refine gas ?_
  refine gnt (hK4 _ _ ?_)
  refine gc_ret ?_
  refine ret_1 rfl rfl  (fun w M => ?_)
  rw [show bP (FitP c) = decide ((c.s.length : Int) ≤ 40) from by rw [← bP_dec]; exact bP_congr ⟨fun h => by have := h.2; omega, fun h => ⟨by omega, by omega⟩⟩]; exact ⟨rfl, M.1⟩
 ·try simp only [sA] at hs1_3
  refine gsk ?_
  refine gsk ?_
  refine gsk ?_
  refine gsk ?_
  refine gv (qt_pick_f rfl rfl rfl) ?_
  refine gas ?_
  refine gnt (hK4 _ _ ?_)
  refine gc_ret ?_
  refine ret_1 rfl rfl  (fun w M => ?_)
  rw [bP_f (fun h : FitP c => by have := h.1; omega)]; exact ⟨rfl, M.1⟩
end Go.Proofs.Ytpfcfhjpgngneac
set_option linter.unusedSimpArgs false
set_option linter.unusedVariables false
set_option linter.unusedSectionVars false
namespace Go.Proofs.Ytpfcfhjpgngneac
open Go.RowKit
end Go.Proofs.Ytpfcfhjpgngneac
set_option linter.unusedSimpArgs false
set_option linter.unusedVariables false
set_option linter.unusedSectionVars false
namespace Go.Proofs.Ytpfcfhjpgngneac
open Go.RowKit
end Go.Proofs.Ytpfcfhjpgngneac
set_option linter.unusedSimpArgs false
set_option linter.unusedVariables false
set_option linter.unusedSectionVars false
namespace Go.Proofs.Ytpfcfhjpgngneac
open Go.RowKit
def Own2H (v : Value) (us : List Value) (rows : List (List Int)) (i : Nat) (w : World) (S : Nat → Prop) : Prop :=
  us.length = rows.length ∧ rows.length ≤ 5000000000000 ∧ w.ownsRow 0 24 1 v rows.length us ∧
    (∀ j, j < rows.length → j ≠ i → Sl w 0 (us.getD j undef) (rows.getD j []) ∧ Apart (us.getD j undef) v ∧ ∀ q, (us.getD j undef).ownBlock = some q → S q) ∧
    (∀ j k, j < k → k < rows.length → j ≠ i → k ≠ i → Apart (us.getD j undef) (us.getD k undef)) ∧ ∀ q, v.ownBlock = some q → S q
theorem own2H_loc (v : Value) (us : List Value) (rows : List (List Int)) (i : Nat) : Loc (Own2H v us rows i) where
  keep hs ha h := by
    obtain ⟨h1, h2, h3, h4, h5, h6⟩ := h
    exact ⟨h1, h2, own_agree h3 fun q hq e => ha q hq (h6 q e), fun j hj hji => ⟨⟨own_agree (h4 j hj hji).1.1 fun q hq e => ha q hq ((h4 j hj hji).2.2 q e), (h4 j hj hji).1.2⟩, (h4 j hj hji).2.1, fun q hq => hs q ((h4 j hj hji).1.1.lt q hq).2 ((h4 j hj hji).2.2 q hq)⟩, h5, fun q hq => hs q (h3.lt q hq).2 (h6 q hq)⟩
def own2HI (v : Value) (us : List Value) (rows : List (List Int)) (i : Nat) : Itm := ⟨_, own2H_loc v us rows i⟩
theorem star_hole {is : List Itm} {w : World} {S : Nat → Prop} {n : Nat} {v : Value} {us : List Value} {rows : List (List Int)} {i : Nat} (h : Star is w S) (hi : is[n]? = some (own2U v us rows)) (hlt : i < rows.length) :
    Star (is.set n (own2HI v us rows i) ++ [own1I (us.getD i undef) (rows.getD i [])]) w S := by
  have hn : n < is.length := (List.getElem?_eq_some_iff.1 hi).1
  obtain ⟨S1, S2, k1, k2, kd, hp, h2⟩ := star_pick is hi h
  obtain ⟨h1, h2', h3, h4, h5, h6⟩ := (hp : Own2U v us rows w S1)
  have hr := h4 i hlt
  refine star_app _ _ (S1 := fun k => S k ∧ (us.getD i undef).ownBlock ≠ some k) (S2 := fun k => (us.getD i undef).ownBlock = some k) (fun k h => h.1) (fun k h => k1 k (hr.2.2 k h)) (fun k h h' => h.2 h') ?_ ?_
  · refine star_unpick _ (by simpa using hn) ⟨fun k => S1 k ∧ (us.getD i undef).ownBlock ≠ some k, S2, fun k h => ⟨k1 k h.1, h.2⟩, fun k h => ⟨k2 k h, fun e => kd k (hr.2.2 k e) h⟩, fun k h h' => kd k h.1 h', ?_, by simpa using h2⟩
    refine ⟨h1, h2', h3, fun j hj hji => ⟨(h4 j hj).1, (h4 j hj).2.1, fun q hq => ⟨(h4 j hj).2.2 q hq, fun e => ?_⟩⟩, fun j k hjk hk _ _ => h5 j k hjk hk, fun q hq => ⟨h6 q hq, fun e => hr.2.1 q e hq⟩⟩
    rcases Nat.lt_or_ge j i with h | h
    · exact h5 j i h hlt q hq e
    · exact h5 i j (by omega) hj q e hq
  · exact ⟨_, fun _ => False, fun k h => h, fun k h => h.elim, fun k _ h => h, (⟨hr.1, fun q hq => hq⟩ : Own1 _ _ _ _), trivial⟩
theorem own2H_store {w : World} {S1 S2 : Nat → Prop} {g n cap k : Nat} {us : List Value} {rows : List (List Int)} {r : List Int} {u : Value} (h : Own2H (.slice (some ⟨g, 0, none⟩) n cap) us rows k w S1) (hk : k < rows.length)
    (hu : Own1 u r w S2) (hd : ∀ q, S1 q → ¬ S2 q) : Own2U (.slice (some ⟨g, 0, none⟩) n cap) (us.set k u) (rows.set k r) (w.setCell ⟨g, k, none⟩ u) (fun q => S1 q ∨ S2 q) ∧ FrS S1 w (w.setCell ⟨g, k, none⟩ u) := by
  obtain ⟨h1, h2, h3, h4, h5, h6⟩ := h
  have hgS : S1 g := h6 g rfl
  have hn : n = rows.length := by
    rcases h3.2 with ⟨hv, _⟩ | ⟨g', cap', cur, hv, _⟩
    · simp at hv
    · simp only [Value.slice.injEq] at hv
      exact hv.2.1
  subst hn
  have hst := h3.stored k u
  have hgr := hst.2
  have hne : ∀ v : Value, (∀ q, v.ownBlock = some q → q ≠ g) → v.ownBlock = none ∨ v.ownBlock ≠ some g := fun v hv => by
    cases hb0 : v.ownBlock with
    | none => exact .inl rfl
    | some q => exact .inr fun e => hv q hb0 (by simpa using e)
  have hu0 : Sl (w.setCell ⟨g, k, none⟩ u) 0 u r := sl_kept hu.1 hgr (hne u fun q hq e => hd g hgS (by rw [← e]; exact hu.2 q hq))
  refine ⟨⟨by simp [h1], by simpa using h2, by simpa using hst.1, fun i hi => ?_, fun i j hij hj => ?_, fun q hq => .inl (h6 q hq)⟩, ⟨hgr.os, hgr.tape, hgr.output, hgr.size, fun q hq hs => hgr.block q hq fun e => hs (by rw [Option.some.inj e]; exact hgS)⟩⟩
  · simp only [List.length_set] at hi
    rw [getD_set2 us k u undef i (by omega), getD_set2 rows k r [] i (by omega)]
    by_cases hik : i = k
    · rw [if_pos hik, if_pos hik]
      exact ⟨hu0, fun q hq hv => by
        simp only [Value.ownBlock, Option.some.injEq] at hv
        exact hd g hgS (by rw [hv]; exact hu.2 q hq), fun q hq => .inr (hu.2 q hq)⟩
    · rw [if_neg hik, if_neg hik]
      exact ⟨sl_kept (h4 i hi hik).1 hgr (hne _ fun q hq e => (h4 i hi hik).2.1 q hq (by simp [Value.ownBlock, e])), (h4 i hi hik).2.1, fun q hq => .inl ((h4 i hi hik).2.2 q hq)⟩
  · simp only [List.length_set] at hj
    rw [getD_set2 us k u undef i (by omega), getD_set2 us k u undef j (by omega)]
    by_cases hik : i = k
    · rw [if_pos hik, if_neg (by omega)]
      exact fun q hq hq2 => hd q ((h4 j hj (by omega)).2.2 q hq2) (hu.2 q hq)
    · rw [if_neg hik]
      by_cases hjk : j = k
      · rw [if_pos hjk]
        exact fun q hq hq2 => hd q ((h4 i (by omega) hik).2.2 q hq) (hu.2 q hq2)
      · rw [if_neg hjk]
        exact h5 i j hij hj hik hjk
section
variable {w0 : World} {is : List Itm} {ops : Array Oper} {Q : Exit → Act → World → Prop} {o : Oper} {rest : List Oper} {N : Nat} {e : Env} {v : Value} {d : Nat} {K : Act → World → Prop}
theorem mem_hole {w : World} {n : Nat} {us : List Value} {rows : List (List Int)} {i : Int} (M : Mem w0 w is) (hi : is[n]? = some (own2U v us rows)) (h0 : 0 ≤ i) (h1 : i < rows.length) : Mem w0 w (is.set n (own2HI v us rows i.toNat) ++ [own1I (us.getD i.toNat undef) (row2 rows i)]) :=
  ⟨M.1, star_hole M.2 hi (by omega)⟩
theorem go_shift {is' : List Itm} (h : ∀ w, Mem w0 w is → Mem w0 w is') (hk : GO w0 is' N o e Q K) : GO w0 is N o e Q K := fun w a M F => hk w a (h w M) F
theorem go_appendHole {s x : Operand} {t : TypeId} {n m : Nat} {us : List Value} {rows : List (List Int)} {u : Value} {y i : Int} (hd : o.dst = some d) (hN : Nat.blt d N = true) (hop : o.op = .call { callee := .builtin .append, args := #[s, x], argTypes := #[t, t] }) (ht : Try.prog.underlying t = some (.slice 2))
    (hs : evo e s = some (us.getD i.toNat undef)) (hx : evo e x = some u) (hi : is[n]? = some (own2U v us rows)) (hj : is[m]? = some (own1I u [y])) (hnm : n ≠ m) (h0 : 0 ≤ i) (h1 : i < rows.length) (hn : (row2 rows i).length + 1 ≤ 17592186044415)
    (hk : ∀ a cap, GK w0 (is.set n (own2HI v us rows i.toNat) ++ [own1I (.slice a (row2 rows i ++ [y]).length cap) (row2 rows i ++ [y])]) N K ((d, .slice a (row2 rows i ++ [y]).length cap) :: e)) : GO w0 is N o e Q K := by
  have hm : m < is.length := (List.getElem?_eq_some_iff.1 hj).1
  refine go_shift (fun w M => mem_hole (i := i) M hi h0 h1) (go_append (n := is.length) (m := m) (xs := row2 rows i) (y := y) hd hN hop ht hs hx ?_ ?_ hn fun a cap => ?_)
  · rw [List.getElem?_append_right (by simp)]; simp
  · rw [List.getElem?_append_left (by simpa using hm), List.getElem?_set_ne hnm]; exact hj
  · have := hk a cap
    have he : (is.set n (own2HI v us rows i.toNat) ++ [own1I (us.getD i.toNat undef) (row2 rows i)]).set is.length (own1I (.slice a (row2 rows i ++ [y]).length cap) (row2 rows i ++ [y])) = is.set n (own2HI v us rows i.toNat) ++ [own1I (.slice a (row2 rows i ++ [y]).length cap) (row2 rows i ++ [y])] := by
      rw [List.set_append_right _ _ (by simp)]; simp
    rw [he]; exact this
theorem lenA_H {n k : Nat} {us : List Value} {rows : List (List Int)} (h : is[n]? = some (own2HI v us rows k)) {w : World} (M : Mem w0 w is) : LenA v rows.length := by
  obtain ⟨S, _, hb⟩ := mem_get M h
  rcases (hb : Own2H v us rows k w S).2.2.1.2 with ⟨hv, hn⟩ | ⟨g, cap, cur, hv, _⟩
  · exact ⟨none, 0, by rw [hn]; exact hv, fun h => by omega⟩
  · exact ⟨_, cap, hv, fun _ => ⟨g, 0, rfl⟩⟩
theorem go_storeH {t : TypeId} {x y : Operand} {n m m' k : Nat} {us : List Value} {rows : List (List Int)} {r : List Int} {u : Value} {i : Int} (hd : o.dst = none) (hop : o.op = .store t x y) (hx : evo e x = some (eltP v i)) (hy : evo e y = some u)
    (hs : (Try.prog.info? t).map (·.size) = some 1) (hi : is[n]? = some (own2HI v us rows k)) (hj : (is.eraseIdx n)[m']? = some (own1I u r)) (hE : (is.set m trivI).eraseIdx n = (is.eraseIdx n).set m' trivI) (hik : k = i.toNat) (h0 : 0 ≤ i) (h1 : i < rows.length)
    (hk : GK w0 ((is.set m trivI).set n (own2U v (us.set i.toNat u) (rows.set i.toNat r))) N K e) : GO w0 is N o e Q K := by
  subst hik
  intro w ac M F
  obtain ⟨S1, S2, k1, k2, kd, hp, hq, hset⟩ := star_two M.2 hi hj hE
  have hp' : Own2H v us rows i.toNat w S1 := hp
  have hq' : Own1 u r w S2 := hq
  obtain ⟨ua, uc, rfl⟩ := rd_form hq'.rd
  have hform := hp'.2.2.1.2
  rcases hform with ⟨_, hn⟩ | ⟨g, cap, cur, rfl, _, hg, hnc, hcm, hcs, htk⟩
  · omega
  · obtain ⟨hnew, hfr⟩ := own2H_store hp' (by omega) hq' kd
    have hlt : i.toNat < cur.size := by rw [hcs]; omega
    have hcell : w.cell? ⟨g, i.toNat, none⟩ = some cur[i.toNat] := by rw [cell_of_row w g _ cur _ (0, 0) hg]; simp [hlt]
    have hfz : w.frozen? ⟨g, i.toNat, none⟩ = false := frozen_of_row w g _ _ _ hg
    refine go_skip (w' := w.setCell ⟨g, i.toNat, none⟩ (.slice ua r.length uc)) hd F ?_ fun ac F => hk _ ac ⟨below_frS M.1 hfr (Nat.le_refl _) k1, hset _ _ hfr hnew⟩ F
    intro ρ F; have hx := F _ _ hx; have hy := F _ _ hy
    have he : eltP (.slice (some ⟨g, 0, none⟩) rows.length cap) i = .pointer (some ⟨g, i.toNat, none⟩) := by simp [eltP]
    simp [execOp, hop, hx, hy, he, run_store1 hs (u := .slice ua r.length uc) rfl rfl hcell hfz]
end
end Go.Proofs.Ytpfcfhjpgngneac
