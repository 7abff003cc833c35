import Derived.Test.YtpcabkdkdnchaaaGreatZ27
import Derived.Test.YtpcabkdkdnchaaaGreatZ30
import Derived.Test.YtpcabkdkdnchaaaGreatZ15
import Derived.Test.YtpcabkdkdnchaaaGreatZ16
set_option linter.unusedSimpArgs false
set_option linter.unusedVariables false
set_option linter.unusedSectionVars false
namespace Go.Proofs.YtpcabkdkdnchaaaGreat
open Go.RowKit
def oneC : Cat := posetC [[1]]
def pntF (c : Cat) (x : Int) : Fct := ⟨oneC, c, [x], [at0 c.e x]⟩
theorem one_chain : chR 1 1 = [[1]] := by decide
theorem oneC_s : oneC.s.length = 1 := by decide
theorem oneC_fit : FitP (posetC [[1]]) := ⟨by decide, by decide⟩
theorem chain_one : fChainCategory ((1 : Nat) : Int) = (oneC, 0) := by
 have h := chain_pt (m := 1) (by omega) (by rw [one_chain]; exact oneC_fit)
 rw [one_chain] at h; exact h
theorem constF_pnt (c : Cat) (x : Int) : constF oneC c x = pntF c x := by
 have h1 : oneC.ob.toNat = 1 := by decide
 unfold constF pntF
 rw [h1, oneC_s]; rfl
theorem oneC_shape : ShapeP oneC := by
 rw [show oneC = ⟨1, [0], [0], [0], [[0]]⟩ from rfl]
 refine ⟨⟨by decide, by decide, by decide, rfl, rfl, rfl⟩, fun j hj => ?_, fun z hz => ?_, fun z hz => ?_, fun x hx => ?_, fun f g hf hg => ?_⟩
 ·obtain rfl : j = 0 := by simpa using hj
  rfl
 ·rcases List.mem_singleton.1 hz with rfl; exact ⟨by decide, by decide⟩
 ·rcases List.mem_singleton.1 hz with rfl; exact ⟨by decide, by decide⟩
 ·obtain rfl : x = 0 := by simpa using hx
  exact ⟨⟨by decide, by decide⟩, rfl, rfl⟩
 ·obtain rfl : f = 0 := by simpa using hf
  obtain rfl : g = 0 := by simpa using hg
  exact ⟨fun _ => ⟨⟨by decide, by decide⟩, rfl, rfl⟩, fun h => absurd rfl h⟩
def RetPt (W : World) (c : Cat) (c1 c2 c3 c4 : Value) (x : Int) (e : Ending) (w' : World) : Prop :=
 ∃ (a1 a2 a3 a4 b1 b2 : Option Addr) (k1 k2 k3 k4 q1 q2 : Nat) (p : List Value), e = .returned (.agg #[.int .i64 oneC.ob, .slice a1 oneC.s.length k1, .slice a2 oneC.t.length k2, .slice a3 oneC.e.length k3, .slice a4 oneC.m.length k4, .int .i64 c.ob, c1, c2, c3, c4, .slice b1 [x].length q1, .slice b2 [at0 c.e x].length q2]) ∧ Star [own1I (.slice a1 oneC.s.length k1) oneC.s, own1I (.slice a2 oneC.t.length k2) oneC.t, own1I (.slice a3 oneC.e.length k3) oneC.e, own2U (.slice a4 oneC.m.length k4) p oneC.m, own1I (.slice b1 [x].length q1) [x], own1I (.slice b2 [at0 c.e x].length q2) [at0 c.e x]] w' (fun k => W.heap.size ≤ k) ∧ Below W.heap.size W w'
theorem retPt_star {W w' : World} {c : Cat} {c1 c2 c3 c4 : Value} {x : Int} {a1 a2 a3 a4 b1 b2 : Option Addr} {k1 k2 k3 k4 q1 q2 : Nat} {p : List Value} {is : List Itm} (M : Mem W w' (own1I (.slice a1 oneC.s.length k1) oneC.s :: own1I (.slice a2 oneC.t.length k2) oneC.t :: own1I (.slice a3 oneC.e.length k3) oneC.e :: own2U (.slice a4 oneC.m.length k4) p oneC.m :: own1I (.slice b1 [x].length q1) [x] :: own1I (.slice b2 [at0 c.e x].length q2) [at0 c.e x] :: is)) : RetPt W c c1 c2 c3 c4 x (.returned (.agg #[.int .i64 oneC.ob, .slice a1 oneC.s.length k1, .slice a2 oneC.t.length k2, .slice a3 oneC.e.length k3, .slice a4 oneC.m.length k4, .int .i64 c.ob, c1, c2, c3, c4, .slice b1 [x].length q1, .slice b2 [at0 c.e x].length q2])) w' :=
 ⟨a1, a2, a3, a4, b1, b2, k1, k2, k3, k4, q1, q2, p, rfl, (mem_take 6 M).2, M.1⟩
section
variable {w0 : World} {is : List Itm} {ops : Array Oper} {Q : Exit → Act → World → Prop} {o : Oper} {rest : List Oper} {N : Frm} {e : Env} {v : Value} {d : Nat} {K : Act → World → Prop} {f : FuncId} {fn : Func} {ags : Array Operand} {ts : Array TypeId} {vs : List Value}
theorem go_callPt {c : Cat} {c1 c2 c3 c4 : Value} {x : Int} (hd : o.dst = some d) (hN : Nat.blt d N = true) (hop : o.op = .call { callee := .value (.func f), args := ags, argTypes := ts }) (hfn : Tryz.prog.funcs[f]? = some fn) (hb : fn.body.isNone = false) (hn : (fn.name == "runtime.NumGoroutine") = false) (hargs : evoL e ags.toList = some vs) (hc : ∀ w, Mem w0 w is → Calls Tryz.prog f vs.toArray w (RetPt w c c1 c2 c3 c4 x))
  (hk : ∀ a1 k1 a2 k2 a3 k3 a4 k4 b1 q1 b2 q2 p, GK w0 (is ++ [own1I (.slice a1 oneC.s.length k1) oneC.s, own1I (.slice a2 oneC.t.length k2) oneC.t, own1I (.slice a3 oneC.e.length k3) oneC.e, own2U (.slice a4 oneC.m.length k4) p oneC.m, own1I (.slice b1 [x].length q1) [x], own1I (.slice b2 [at0 c.e x].length q2) [at0 c.e x]]) N K ((d, .agg #[.int .i64 oneC.ob, .slice a1 oneC.s.length k1, .slice a2 oneC.t.length k2, .slice a3 oneC.e.length k3, .slice a4 oneC.m.length k4, .int .i64 c.ob, c1, c2, c3, c4, .slice b1 [x].length q1, .slice b2 [at0 c.e x].length q2]) :: e)) : GO w0 is N o e Q K := by
 intro w a M _F
 refine go_call hd hN _F hop hfn hb hn hargs (hc w M) fun e' w' hR => ?_
 obtain ⟨a1, a2, a3, a4, b1, b2, k1, k2, k3, k4, q1, q2, p, rfl, hs, hbl⟩ := hR
 exact ⟨_, rfl, fun a F => hk a1 k1 a2 k2 a3 k3 a4 k4 b1 q1 b2 q2 p w' a (mem_news M hbl hs) F⟩
end
noncomputable def askC (c : Cat) (x : Int) (X : Cat) : Cat := if objErr c [x] = 0 then X else cat0
noncomputable def askF (c : Cat) (x : Int) (X : Fct) : Fct := if objErr c [x] = 0 then X else fct0
noncomputable def askN (c : Cat) (x : Int) (n : Int) : Int := if objErr c [x] = 0 then n else objErr c [x]
theorem ask_t {c : Cat} {x : Int} (h : objErr c [x] = 0) (X : Cat) (Y : Fct) (n : Int) : askC c x X = X ∧ askF c x Y = Y ∧ askN c x n = n := ⟨if_pos h, if_pos h, if_pos h⟩
theorem ask_n {c : Cat} {x : Int} (h : ¬ objErr c [x] = 0) (X : Cat) (Y : Fct) (n : Int) : askC c x X = cat0 ∧ askF c x Y = fct0 ∧ askN c x n = objErr c [x] := ⟨if_neg h, if_neg h, if_neg h⟩
noncomputable def fSliceCategory (c : Cat) (x : Int) : Cat × Int := (askC c x (fCommaCategory (selfF c) (pntF c x)).1, askN c x (fCommaCategory (selfF c) (pntF c x)).2)
noncomputable def fCosliceCategory (c : Cat) (x : Int) : Cat × Int := (askC c x (fCommaCategory (pntF c x) (selfF c)).1, askN c x (fCommaCategory (pntF c x) (selfF c)).2)
noncomputable def fSliceFunctor (c : Cat) (x : Int) : Fct × Int := (askF c x (fCommaLeft (selfF c) (pntF c x)).1, askN c x (fCommaLeft (selfF c) (pntF c x)).2)
noncomputable def fCosliceFunctor (c : Cat) (x : Int) : Fct × Int := (askF c x (fCommaRight (pntF c x) (selfF c)).1, askN c x (fCommaRight (pntF c x) (selfF c)).2)
noncomputable def fArrowCategory (c : Cat) : Cat × Int := if fIsCategory c = true then fCommaCategory (selfF c) (selfF c) else (cat0, 1)
theorem fct0_mz : mzF fct0 ≤ 3500000000000000 := by decide
theorem cat0_mz : mzC cat0 ≤ 1152921504606846 := by decide
theorem bound_askC {c : Cat} {x : Int} {X : Cat} (h : mzC X ≤ 1152921504606846) : mzC (askC c x X) ≤ 1152921504606846 := by 
 unfold askC; split
 ·exact h
 ·exact cat0_mz
theorem bound_askF {c : Cat} {x : Int} {X : Fct} (h : mzF X ≤ 3500000000000000) : mzF (askF c x X) ≤ 3500000000000000 := by 
 unfold askF; split
 ·exact h
 ·exact fct0_mz
theorem bound_SliceCategory (c : Cat) (x : Int) : mzC (fSliceCategory c x).1 ≤ 1152921504606846 := bound_askC (bound_CommaCategory _ _)
theorem bound_CosliceCategory (c : Cat) (x : Int) : mzC (fCosliceCategory c x).1 ≤ 1152921504606846 := bound_askC (bound_CommaCategory _ _)
theorem bound_SliceFunctor (c : Cat) (x : Int) : mzF (fSliceFunctor c x).1 ≤ 3500000000000000 := bound_askF (bound_CommaLeft _ _)
theorem bound_CosliceFunctor (c : Cat) (x : Int) : mzF (fCosliceFunctor c x).1 ≤ 3500000000000000 := bound_askF (bound_CommaRight _ _)
theorem bound_ArrowCategory (c : Cat) : mzC (fArrowCategory c).1 ≤ 1152921504606846 := by
 unfold fArrowCategory; split
 ·exact bound_CommaCategory _ _
 ·exact cat0_mz
theorem cm_rde {w : World} {c : Cat} {ob c1 c2 c3 c4 : Value} (h : RdC w (.agg #[ob, c1, c2, c3, c4]) c) : Rd w c3 c.e := by
 obtain ⟨y1, y2, y3, y4, hv, h1, h2, h3, h4⟩ := h
 obtain ⟨_, rfl, rfl, rfl, rfl⟩ := agg5 hv
 exact h3
theorem ask_x {c : Cat} {x : Int} (h : objErr c [x] = 0) : fIsCategory c = true ∧ 0 ≤ x ∧ x < c.ob := by
 have := objErr_0 h
 exact ⟨bP_t this.1, allP_one.1 this.2⟩
set_option maxHeartbeats 2000000 in
set_option maxRecDepth 100000 in
theorem pointAt_any (w : World) (c : Cat) (x : Int) (x1 x2 x3 x4 : Option Addr) (n1 n2 n3 n4 : Nat) (hc : RdC w (.agg #[.int .i64 c.ob, .slice x1 c.s.length n1, .slice x2 c.t.length n2, .slice x3 c.e.length n3, .slice x4 c.m.length n4]) c) (hx0 : 0 ≤ x) (hx1 : x < c.e.length) :
  Calls Tryz.prog 93 #[.agg #[.int .i64 c.ob, .slice x1 c.s.length n1, .slice x2 c.t.length n2, .slice x3 c.e.length n3, .slice x4 c.m.length n4], .int .i64 x] w (RetPt w c (.slice x1 c.s.length n1) (.slice x2 c.t.length n2) (.slice x3 c.e.length n3) (.slice x4 c.m.length n4) x) := by
 have he := cm_rde hc
 go_enter Tryz.func93, Tryz.ntmps93
 refine gc_enter (N := 22) rfl (look_cons (k := 0) rfl (look_cons (k := 1) rfl (look_nil _))) ?_
 refine gc_sr fun K1 hK1 => ?_
 refine gop fun K3 hK3 => ?_
 refine go_box rfl rfl rfl rfl rfl ?_
 intro B2
 refine hK3 _ _ ?_
 refine gop fun K5 hK5 => ?_
 refine go_alloc (z := (.agg #[.int .i64 0, .slice none 0 0, .slice none 0 0, .slice none 0 0, .slice none 0 0, .int .i64 0, .slice none 0 0, .slice none 0 0, .slice none 0 0, .slice none 0 0, .slice none 0 0, .slice none 0 0])) (cs := [.int .i64 0, .slice none 0 0, .slice none 0 0, .slice none 0 0, .slice none 0 0, .int .i64 0, .slice none 0 0, .slice none 0 0, .slice none 0 0, .slice none 0 0, .slice none 0 0, .slice none 0 0]) rfl rfl rfl (fun w => by kernel_rfl) rfl ?_
 intro B4
 refine hK5 _ _ ?_
 refine gnt (hK1 _ _ ?_)
 refine gc_sr fun K6 hK6 => ?_
 refine gop fun K8 hK8 => ?_
 refine go_callCI rfl rfl rfl Tryz.func125 rfl (by decide) rfl (fun w M => impl_ChainCategory w (1)) ?_
 intro ca7 cb7 cc7 cd7 ce7 cf7 cg7 ch7 cu7
 refine hK8 _ _ ?_
 refine gm ?_
 refine gv (qt_extract rfl rfl rfl) ?_
 refine gv (qt_extract rfl rfl rfl) ?_
 refine gop fun K10 hK10 => ?_
 refine go_alloc (z := (.agg #[.int .i64 0, .slice none 0 0, .slice none 0 0, .slice none 0 0, .slice none 0 0])) (cs := [.int .i64 0, .slice none 0 0, .slice none 0 0, .slice none 0 0, .slice none 0 0]) rfl rfl rfl (fun w => by kernel_rfl) rfl ?_
 intro B9
 refine hK10 _ _ ?_
 refine gop fun K11 hK11 => ?_
 refine go_storeS (n := 6) rfl rfl rfl rfl (by kernel_rfl) rfl rfl rfl ?_
 refine hK11 _ _ ?_
 refine gas ?_
 refine gnt (hK6 _ _ ?_)
 refine gc_seq fun K12 hK12 => ?_
 simp only [show fChainCategory 1 = (oneC, 0) from chain_one]
 try simp only [sL]
 refine ga_start _ (fun w M => mem_erase 1 (M)) ?_
 refine gav 0 rfl (qts Tryz.underlying29 (n := 5)) ?_
 refine gav 1 rfl (qts Tryz.underlying29 (n := 0)) ?_
 refine gav 2 rfl (qt_move rfl rfl) ?_
 refine gav 4 rfl (qtf Tryz.underlying29 (z := 0) (off := 3)) ?_
 refine gav 5 rfl (qtl Tryz.underlying22 (n := 0)) ?_
 refine gav 6 rfl (qt_move rfl rfl) ?_
 refine gav 7 rfl (qti (fun w M => lenA_rd he)) ?_
 refine gav 8 rfl (qtd (fun w M => mem_rd M he)) ?_
 refine ga_two 3 9 (by kernel_rfl) rfl rfl (.free rfl) (.free rfl) (fun K13 hK13 => ?_) (fun K13 hK13 => ?_)
 ·refine go_slice1 rfl rfl rfl rfl Tryz.underlying22 ?_
  intro B14
  refine hK13 _ _ (fun w M => (mem_erase 1 (mem_take 7 M) :)) ?_
  refine gao 9 fun K17 hK17 => ?_
  refine go_slice1 rfl rfl rfl rfl Tryz.underlying22 ?_
  intro B16
  refine hK17 _ _ (fun w M => (mem_erase 1 (mem_take 7 M) :)) ?_
  refine gav 10 rfl (qt_build rfl rfl bt_Functor) ?_
  refine gao 11 fun K18 hK18 => ?_
  refine go_storeS (n := 1) rfl rfl rfl rfl (by kernel_rfl) rfl rfl rfl ?_
  refine hK18 _ _ (fun w M => (mem_erase 1 (mem_take 7 M) :)) ?_
  refine ga_done (by kernel_rfl) ?_
  refine gk_then (hK12 _ _ ?_)
  refine gc_ret ?_
  refine ret_S (n := 1) rfl rfl Tryz.underlying31 rfl (by kernel_rfl) rfl (fun w M => ?_)
  try simp only [sL] at M
  exact retPt_star (mem_block 4 4 (mem_block 7 2 (M)))
 ·refine go_slice1 rfl rfl rfl rfl Tryz.underlying22 ?_
  intro B19
  refine hK13 _ _ (fun w M => (mem_erase 1 (mem_take 7 M) :)) ?_
  refine gao 3 fun K22 hK22 => ?_
  refine go_slice1 rfl rfl rfl rfl Tryz.underlying22 ?_
  intro B21
  refine hK22 _ _ (fun w M => (mem_erase 1 (mem_take 7 M) :)) ?_
  refine gav 10 rfl (qt_build rfl rfl bt_Functor) ?_
  refine gao 11 fun K23 hK23 => ?_
  refine go_storeS (n := 1) rfl rfl rfl rfl (by kernel_rfl) rfl rfl rfl ?_
  refine hK23 _ _ (fun w M => (mem_erase 1 (mem_take 7 M) :)) ?_
  refine ga_done (by kernel_rfl) ?_
  refine gk_then (hK12 _ _ ?_)
  refine gc_ret ?_
  refine ret_S (n := 1) rfl rfl Tryz.underlying31 rfl (by kernel_rfl) rfl (fun w M => ?_)
  try simp only [sL] at M
  exact retPt_star (mem_block 4 4 (mem_block 8 1 (mem_block 7 1 (M))))
set_option maxHeartbeats 4000000 in
set_option maxRecDepth 100000 in
theorem askSlC_any (w : World) (v : Value) (c : Cat) (x : Int) (h : RdC w v c) (fv : Value) (X : Cat) (n : Int) (hask : fIsCategory c = true → (0 ≤ x ∧ x < c.ob) → ∀ (w' : World) (v1 v2 : Value), Below w.heap.size w w' → RdF w' v1 (selfF c) → RdF w' v2 (pntF c x) → CallsV fv [v1, v2] w' (RetCI w' X n)) :
  Calls Tryz.prog 58 #[v, .int .i64 x, fv] w (RetCI w (askC c x X) (askN c x n)) := by
 have h0 := h
 obtain ⟨va, vb, vc, vd, ve, vf, vg, vh, rfl, h1, h2, h3, h4, _⟩ := h.lists
 go_enter Tryz.func58, Tryz.ntmps58
 refine gc_enter (N := 37) rfl (look_cons (k := 0) rfl (look_cons (k := 1) rfl (look_cons (k := 2) rfl (look_nil _)))) ?_
 refine gc_sr fun K1 hK1 => ?_
 refine gop fun K3 hK3 => ?_
 refine go_box rfl rfl rfl rfl rfl ?_
 intro B2
 refine hK3 _ _ ?_
 refine gop fun K5 hK5 => ?_
 refine go_alloc (z := (.agg #[.int .i64 0, .slice none 0 0, .slice none 0 0, .slice none 0 0, .slice none 0 0])) (cs := [.int .i64 0, .slice none 0 0, .slice none 0 0, .slice none 0 0, .slice none 0 0]) rfl rfl rfl (fun w => by kernel_rfl) rfl ?_
 intro B4
 refine hK5 _ _ ?_
 refine gas ?_
 refine gnt (hK1 _ _ ?_)
 refine gc_sr fun K6 hK6 => ?_
 refine gv (qts Tryz.underlying29 (n := 0)) ?_
 refine gm ?_
 refine gop fun K8 hK8 => ?_
 refine go_slice1 rfl rfl rfl rfl Tryz.underlying22 ?_
 intro B7
 refine hK8 _ _ ?_
 refine gop fun K10 hK10 => ?_
 refine go_callCI rfl rfl rfl Tryz.func92 rfl (by decide) rfl (fun w M => readObjects_any w _ _ _ ([x]) (mem_rdC M h0) ((mem_own1 (n := 2) M rfl).rd)) ?_
 intro ca9 cb9 cc9 cd9 ce9 cf9 cg9 ch9 cu9
 refine hK10 _ _ ?_
 refine gm ?_
 refine gv (qt_extract rfl rfl rfl) ?_
 refine gv (qt_extract rfl rfl rfl) ?_
 refine gop fun K12 hK12 => ?_
 refine go_alloc (z := (.agg #[.int .i64 0, .slice none 0 0, .slice none 0 0, .slice none 0 0, .slice none 0 0])) (cs := [.int .i64 0, .slice none 0 0, .slice none 0 0, .slice none 0 0, .slice none 0 0]) rfl rfl rfl (fun w => by kernel_rfl) rfl ?_
 intro B11
 refine hK12 _ _ ?_
 refine gop fun K13 hK13 => ?_
 refine go_storeS (n := 7) rfl rfl rfl rfl (by kernel_rfl) rfl rfl rfl ?_
 refine hK13 _ _ ?_
 refine gas ?_
 refine gnt (hK6 _ _ ?_)
 refine gc_seq fun K14 hK14 => ?_
 refine gc_sr fun K15 hK15 => ?_
 refine gm ?_
 refine gv (qt_neq rfl rfl rfl) ?_
 refine gnt (hK15 _ _ ?_)
 refine gc_cond rfl (fun hc0 => ?_) (fun hc0 => ?_)
 ·try simp only [sA] at hc0
  refine gc_sr fun K16 hK16 => ?_
  refine gop fun K18 hK18 => ?_
  refine go_alloc (z := (.agg #[.int .i64 0, .slice none 0 0, .slice none 0 0, .slice none 0 0, .slice none 0 0])) (cs := [.int .i64 0, .slice none 0 0, .slice none 0 0, .slice none 0 0, .slice none 0 0]) rfl rfl rfl (fun w => by kernel_rfl) rfl ?_
  intro B17
  refine hK18 _ _ ?_
  refine gnt (hK16 _ _ ?_)
  refine gc_sr fun K19 hK19 => ?_
  refine gv (qts Tryz.underlying29 (n := 8)) ?_
  refine gm ?_
  refine gop fun K20 hK20 => ?_
  refine go_storeS (n := 1) rfl rfl rfl rfl (by kernel_rfl) rfl rfl rfl ?_
  refine hK20 _ _ ?_
  refine gas ?_
  refine gnt (hK19 _ _ ?_)
  refine gc_ret ?_
  refine gk_then_ret ?_
  refine ret_SI (n := 1) rfl rfl rfl Tryz.underlying29 rfl (by kernel_rfl) rfl (fun w M => ?_)
  have hn := ask_n hc0 X fct0 n; rw [hn.1, hn.2.2]; exact ⟨_, rfl, ownC_zero _ _, M.1⟩
 ·try simp only [sA] at hc0
  refine gc_skip ?_
  refine gk_then (hK14 _ _ ?_)
  refine gc_seq fun K21 hK21 => ?_
  have hx := ask_x hc0
  have hI := hx.1
  have hel := (isCat_of hI).toShapeP.el
  simp only [show objCat c [x] = c from if_pos hc0]
  refine gc_region ?_
  refine gv (qts Tryz.underlying29 (n := 7)) ?_
  refine gop fun K23 hK23 => ?_
  refine go_callFI rfl rfl rfl Tryz.func67 rfl (by decide) rfl (fun w M => impl_IdentityFunctor w _ _ (rdC_mk ((mem_own1 (n := 3) M rfl).rd) ((mem_own1 (n := 4) M rfl).rd) ((mem_own1 (n := 5) M rfl).rd) (mem_rdU (n := 6) M rfl))) ?_
  intro fx1_22 fk1_22 fx2_22 fk2_22 fx3_22 fk3_22 fx4_22 fk4_22 fx5_22 fk5_22 fx6_22 fk6_22 fx7_22 fk7_22 fx8_22 fk8_22 fx9_22 fk9_22 fx10_22 fk10_22 us22 ut22
  refine hK23 _ _ ?_
  refine gm ?_
  refine gv (qt_extract rfl rfl rfl) ?_
  refine gv (qt_extract rfl rfl rfl) ?_
  refine gop fun K25 hK25 => ?_
  refine go_alloc (z := (.agg #[.int .i64 0, .slice none 0 0, .slice none 0 0, .slice none 0 0, .slice none 0 0, .int .i64 0, .slice none 0 0, .slice none 0 0, .slice none 0 0, .slice none 0 0, .slice none 0 0, .slice none 0 0])) (cs := [.int .i64 0, .slice none 0 0, .slice none 0 0, .slice none 0 0, .slice none 0 0, .int .i64 0, .slice none 0 0, .slice none 0 0, .slice none 0 0, .slice none 0 0, .slice none 0 0, .slice none 0 0]) rfl rfl rfl (fun w => by kernel_rfl) rfl ?_
  intro B24
  refine hK25 _ _ ?_
  refine gop fun K26 hK26 => ?_
  refine go_storeS (n := 18) rfl rfl rfl rfl (by kernel_rfl) rfl rfl rfl ?_
  refine hK26 _ _ ?_
  refine gas ?_
  refine gnt (hK21 _ _ ?_)
  refine gc_seq fun K27 hK27 => ?_
  simp only [idf_t hI]
  try simp only [sL]
  refine ga_start _ (fun w M => mem_erase 1 (M)) ?_
  refine gav 0 rfl (qt_move rfl rfl) ?_
  refine gav 1 rfl (qts Tryz.underlying31 (n := 17)) ?_
  refine gav 2 rfl (qts Tryz.underlying29 (n := 6)) ?_
  refine gav 3 rfl (qt_move rfl rfl) ?_
  refine gao 4 fun K29 hK29 => ?_
  refine go_callPt rfl rfl rfl Tryz.func93 rfl (by decide) rfl (fun w M => pointAt_any w c x _ _ _ _ _ _ _ _ (rdC_mk ((mem_own1 (n := 3) M rfl).rd) ((mem_own1 (n := 4) M rfl).rd) ((mem_own1 (n := 5) M rfl).rd) (mem_rdU (n := 6) M rfl)) hx.2.1 (by omega)) ?_
  intro pa28 pb28 pc28 pd28 pe28 pf28 pg28 ph28 pi28 pj28 pk28 pl28 pm28
  refine hK29 _ _ (fun w M => (mem_erase 1 (mem_take 19 M) :)) ?_
  refine gao 5 fun K31 hK31 => ?_
  refine go_callVCI rfl rfl rfl rfl rfl (fun w M => hask hI hx.2 w _ _ M.1 (rdF_mk (F := selfF c) ((mem_own1 (n := 8) M rfl).rd) ((mem_own1 (n := 9) M rfl).rd) ((mem_own1 (n := 10) M rfl).rd) (mem_rdU (n := 11) M rfl) ((mem_own1 (n := 12) M rfl).rd) ((mem_own1 (n := 13) M rfl).rd) ((mem_own1 (n := 14) M rfl).rd) (mem_rdU (n := 15) M rfl) ((mem_own1 (n := 16) M rfl).rd) ((mem_own1 (n := 17) M rfl).rd)) (rdF_mk (F := pntF c x) ((mem_own1 (n := 19) M rfl).rd) ((mem_own1 (n := 20) M rfl).rd) ((mem_own1 (n := 21) M rfl).rd) (mem_rdU (n := 22) M rfl) ((mem_own1 (n := 3) M rfl).rd) ((mem_own1 (n := 4) M rfl).rd) ((mem_own1 (n := 5) M rfl).rd) (mem_rdU (n := 6) M rfl) ((mem_own1 (n := 23) M rfl).rd) ((mem_own1 (n := 24) M rfl).rd))) ?_
  intro za1_30 zk1_30 za2_30 zk2_30 za3_30 zk3_30 za4_30 zk4_30 zu30
  refine hK31 _ _ (fun w M => (mem_erase 1 (mem_take 19 M) :)) ?_
  refine gav 6 rfl (qt_extract rfl rfl rfl) ?_
  refine gav 7 rfl (qt_extract rfl rfl rfl) ?_
  refine gao 8 fun K32 hK32 => ?_
  refine go_storeS (n := 1) rfl rfl rfl rfl (by kernel_rfl) rfl rfl rfl ?_
  refine hK32 _ _ (fun w M => (mem_erase 1 (mem_take 19 M) :)) ?_
  refine gav 9 rfl (qt_assign rfl rfl) ?_
  refine ga_done (by kernel_rfl) ?_
  refine gk_then (hK27 _ _ ?_)
  refine gc_ret ?_
  refine ret_SI (n := 1) rfl rfl rfl Tryz.underlying29 rfl (by kernel_rfl) rfl (fun w M => ?_)
  have hn := ask_t hc0 X fct0 n; rw [hn.1, hn.2.2]; exact ⟨_, rfl, ownC_star (mem_pick (n := 28) (mem_pick (n := 28) (mem_pick (n := 28) (mem_pick (n := 28) (M) rfl) rfl) rfl) rfl).2, M.1⟩
set_option maxHeartbeats 4000000 in
set_option maxRecDepth 100000 in
theorem askCoC1_any (w : World) (B : Nat) (v : Value) (F : Fct) (u : Value) (G : Fct) (h : RdF w v F) (e : RdF w u G) (fv : Value) (hbB : BxV w B 79 (.agg #[fv])) (X : Cat) (n : Int) (hask : ∀ w', Below w.heap.size w w' → RdF w' u G → RdF w' v F → CallsV fv [u, v] w' (RetCI w' X n)) :
  Calls Tryz.prog 94 #[v, u, .pointer (some ⟨B, 0, none⟩)] w (RetCI w X n) := by
 have h0 := h
 obtain ⟨vx1, vx2, vx3, vx4, vx5, vx6, vx7, vx8, vx9, vx10, vk1, vk2, vk3, vk4, vk5, vk6, vk7, vk8, vk9, vk10, rfl, h1, h2, h3, h4, h5, h6, h7, h8, h9, h10⟩ := h.lists
 have e0 := e
 obtain ⟨ux1, ux2, ux3, ux4, ux5, ux6, ux7, ux8, ux9, ux10, uk1, uk2, uk3, uk4, uk5, uk6, uk7, uk8, uk9, uk10, rfl, e1, e2, e3, e4, e5, e6, e7, e8, e9, e10⟩ := e.lists
 go_enter Tryz.func94, Tryz.ntmps94
 refine gc_enter (N := 13) rfl (look_cons (k := 0) rfl (look_cons (k := 1) rfl (look_cons (k := 2) rfl (look_nil _)))) ?_
 refine gc_sr fun K1 hK1 => ?_
 refine gop fun K3 hK3 => ?_
 refine go_box rfl rfl rfl rfl rfl ?_
 intro B2
 refine hK3 _ _ ?_
 refine gop fun K5 hK5 => ?_
 refine go_box rfl rfl rfl rfl rfl ?_
 intro B4
 refine hK5 _ _ ?_
 refine gop fun K7 hK7 => ?_
 refine go_alloc (z := (.agg #[.int .i64 0, .slice none 0 0, .slice none 0 0, .slice none 0 0, .slice none 0 0])) (cs := [.int .i64 0, .slice none 0 0, .slice none 0 0, .slice none 0 0, .slice none 0 0]) rfl rfl rfl (fun w => by kernel_rfl) rfl ?_
 intro B6
 refine hK7 _ _ ?_
 refine gas ?_
 refine gnt (hK1 _ _ ?_)
 refine gc_sr fun K8 hK8 => ?_
 refine gv (qt_loadRB hbB rfl rfl Tryz.underlying79 rfl rfl) ?_
 refine gv (qts Tryz.underlying31 (n := 1)) ?_
 refine gv (qts Tryz.underlying31 (n := 0)) ?_
 refine gop fun K10 hK10 => ?_
 refine go_callVCI rfl rfl rfl rfl rfl (fun w M => hask w M.1 (mem_rdF M e0) (mem_rdF M h0)) ?_
 intro za1_9 zk1_9 za2_9 zk2_9 za3_9 zk3_9 za4_9 zk4_9 zu9
 refine hK10 _ _ ?_
 refine gv (qt_extract rfl rfl rfl) ?_
 refine gv (qt_extract rfl rfl rfl) ?_
 refine gop fun K11 hK11 => ?_
 refine go_storeS (n := 2) rfl rfl rfl rfl (by kernel_rfl) rfl rfl rfl ?_
 refine hK11 _ _ ?_
 refine gas ?_
 refine gnt (hK8 _ _ ?_)
 refine gc_ret ?_
 refine ret_SI (n := 2) rfl rfl rfl Tryz.underlying29 rfl (by kernel_rfl) rfl (fun w M => ?_)
 exact ⟨_, rfl, ownC_star (mem_pick (n := 6) (mem_pick (n := 6) (mem_pick (n := 6) (mem_pick (n := 6) (M) rfl) rfl) rfl) rfl).2, M.1⟩
set_option maxHeartbeats 4000000 in
set_option maxRecDepth 100000 in
theorem askCoC_any (w : World) (v : Value) (c : Cat) (x : Int) (h : RdC w v c) (fv : Value) (hv : IsFn fv) (X : Cat) (n : Int) (hask : fIsCategory c = true → (0 ≤ x ∧ x < c.ob) → ∀ (w' : World) (v1 v2 : Value), Below w.heap.size w w' → RdF w' v1 (pntF c x) → RdF w' v2 (selfF c) → CallsV fv [v1, v2] w' (RetCI w' X n)) :
  Calls Tryz.prog 64 #[v, .int .i64 x, fv] w (RetCI w (askC c x X) (askN c x n)) := by
 have h0 := h
 obtain ⟨va, vb, vc, vd, ve, vf, vg, vh, rfl, h1, h2, h3, h4, _⟩ := h.lists
 go_enter Tryz.func64, Tryz.ntmps64
 refine gc_enter (N := 14) rfl (look_cons (k := 0) rfl (look_cons (k := 1) rfl (look_cons (k := 2) rfl (look_nil _)))) ?_
 refine gc_sr fun K1 hK1 => ?_
 refine gop fun K3 hK3 => ?_
 refine go_box rfl rfl rfl rfl rfl ?_
 intro B2
 refine hK3 _ _ ?_
 refine gop fun K5 hK5 => ?_
 refine go_box rfl rfl rfl rfl hv.cells ?_
 intro B4
 refine hK5 _ _ ?_
 refine gop fun K7 hK7 => ?_
 refine go_alloc (z := (.agg #[.int .i64 0, .slice none 0 0, .slice none 0 0, .slice none 0 0, .slice none 0 0])) (cs := [.int .i64 0, .slice none 0 0, .slice none 0 0, .slice none 0 0, .slice none 0 0]) rfl rfl rfl (fun w => by kernel_rfl) rfl ?_
 intro B6
 refine hK7 _ _ ?_
 refine gas ?_
 refine gnt (hK1 _ _ ?_)
 refine gc_sr fun K8 hK8 => ?_
 refine gv (qts Tryz.underlying29 (n := 0)) ?_
 refine gm ?_
 refine gv (qt_makeF rfl rfl) ?_
 refine gop fun K10 hK10 => ?_
 refine go_callCI rfl rfl rfl Tryz.func58 rfl (by decide) rfl (fun w M => askSlC_any w _ _ _ (mem_rdC M h0) _ (X) (n) (fun hI hx w' v1 v2 hb r1 r2 => callsV_f (bnd := []) (vs := [_, _]) (caps := [_]) Tryz.func94 rfl (by decide) (askCoC1_any w' _ v1 (selfF c) v2 (pntF c x) r1 r2 fv (bxV_below hb (bxV_of (n := 1) M rfl)) X n (fun w2 hb2 s1 s2 => hask hI hx w2 v2 v1 ((M.1.trans (hb.mono M.1.size)).trans (hb2.mono (M.1.trans (hb.mono M.1.size)).size)) s1 s2)))) ?_
 intro ca9 cb9 cc9 cd9 ce9 cf9 cg9 ch9 cu9
 refine hK10 _ _ ?_
 refine gv (qt_extract rfl rfl rfl) ?_
 refine gv (qt_extract rfl rfl rfl) ?_
 refine gop fun K11 hK11 => ?_
 refine go_storeS (n := 2) rfl rfl rfl rfl (by kernel_rfl) rfl rfl rfl ?_
 refine hK11 _ _ ?_
 refine gas ?_
 refine gnt (hK8 _ _ ?_)
 refine gc_ret ?_
 refine ret_SI (n := 2) rfl rfl rfl Tryz.underlying29 rfl (by kernel_rfl) rfl (fun w M => ?_)
 exact ⟨_, rfl, ownC_star (mem_pick (n := 6) (mem_pick (n := 6) (mem_pick (n := 6) (mem_pick (n := 6) (M) rfl) rfl) rfl) rfl).2, M.1⟩
set_option maxHeartbeats 4000000 in
set_option maxRecDepth 100000 in
theorem askSlF_any (w : World) (v : Value) (c : Cat) (x : Int) (h : RdC w v c) (fv : Value) (X : Fct) (n : Int) (hask : fIsCategory c = true → (0 ≤ x ∧ x < c.ob) → ∀ (w' : World) (v1 v2 : Value), Below w.heap.size w w' → RdF w' v1 (selfF c) → RdF w' v2 (pntF c x) → CallsV fv [v1, v2] w' (RetFI w' X n)) :
  Calls Tryz.prog 63 #[v, .int .i64 x, fv] w (RetFI w (askF c x X) (askN c x n)) := by
 have h0 := h
 obtain ⟨va, vb, vc, vd, ve, vf, vg, vh, rfl, h1, h2, h3, h4, _⟩ := h.lists
 go_enter Tryz.func63, Tryz.ntmps63
 refine gc_enter (N := 37) rfl (look_cons (k := 0) rfl (look_cons (k := 1) rfl (look_cons (k := 2) rfl (look_nil _)))) ?_
 refine gc_sr fun K1 hK1 => ?_
 refine gop fun K3 hK3 => ?_
 refine go_box rfl rfl rfl rfl rfl ?_
 intro B2
 refine hK3 _ _ ?_
 refine gop fun K5 hK5 => ?_
 refine go_alloc (z := (.agg #[.int .i64 0, .slice none 0 0, .slice none 0 0, .slice none 0 0, .slice none 0 0, .int .i64 0, .slice none 0 0, .slice none 0 0, .slice none 0 0, .slice none 0 0, .slice none 0 0, .slice none 0 0])) (cs := [.int .i64 0, .slice none 0 0, .slice none 0 0, .slice none 0 0, .slice none 0 0, .int .i64 0, .slice none 0 0, .slice none 0 0, .slice none 0 0, .slice none 0 0, .slice none 0 0, .slice none 0 0]) rfl rfl rfl (fun w => by kernel_rfl) rfl ?_
 intro B4
 refine hK5 _ _ ?_
 refine gas ?_
 refine gnt (hK1 _ _ ?_)
 refine gc_sr fun K6 hK6 => ?_
 refine gv (qts Tryz.underlying29 (n := 0)) ?_
 refine gm ?_
 refine gop fun K8 hK8 => ?_
 refine go_slice1 rfl rfl rfl rfl Tryz.underlying22 ?_
 intro B7
 refine hK8 _ _ ?_
 refine gop fun K10 hK10 => ?_
 refine go_callCI rfl rfl rfl Tryz.func92 rfl (by decide) rfl (fun w M => readObjects_any w _ _ _ ([x]) (mem_rdC M h0) ((mem_own1 (n := 2) M rfl).rd)) ?_
 intro ca9 cb9 cc9 cd9 ce9 cf9 cg9 ch9 cu9
 refine hK10 _ _ ?_
 refine gm ?_
 refine gv (qt_extract rfl rfl rfl) ?_
 refine gv (qt_extract rfl rfl rfl) ?_
 refine gop fun K12 hK12 => ?_
 refine go_alloc (z := (.agg #[.int .i64 0, .slice none 0 0, .slice none 0 0, .slice none 0 0, .slice none 0 0])) (cs := [.int .i64 0, .slice none 0 0, .slice none 0 0, .slice none 0 0, .slice none 0 0]) rfl rfl rfl (fun w => by kernel_rfl) rfl ?_
 intro B11
 refine hK12 _ _ ?_
 refine gop fun K13 hK13 => ?_
 refine go_storeS (n := 7) rfl rfl rfl rfl (by kernel_rfl) rfl rfl rfl ?_
 refine hK13 _ _ ?_
 refine gas ?_
 refine gnt (hK6 _ _ ?_)
 refine gc_seq fun K14 hK14 => ?_
 refine gc_sr fun K15 hK15 => ?_
 refine gm ?_
 refine gv (qt_neq rfl rfl rfl) ?_
 refine gnt (hK15 _ _ ?_)
 refine gc_cond rfl (fun hc0 => ?_) (fun hc0 => ?_)
 ·try simp only [sA] at hc0
  refine gc_sr fun K16 hK16 => ?_
  refine gop fun K18 hK18 => ?_
  refine go_alloc (z := (.agg #[.int .i64 0, .slice none 0 0, .slice none 0 0, .slice none 0 0, .slice none 0 0, .int .i64 0, .slice none 0 0, .slice none 0 0, .slice none 0 0, .slice none 0 0, .slice none 0 0, .slice none 0 0])) (cs := [.int .i64 0, .slice none 0 0, .slice none 0 0, .slice none 0 0, .slice none 0 0, .int .i64 0, .slice none 0 0, .slice none 0 0, .slice none 0 0, .slice none 0 0, .slice none 0 0, .slice none 0 0]) rfl rfl rfl (fun w => by kernel_rfl) rfl ?_
  intro B17
  refine hK18 _ _ ?_
  refine gnt (hK16 _ _ ?_)
  refine gc_sr fun K19 hK19 => ?_
  refine gv (qts Tryz.underlying31 (n := 8)) ?_
  refine gm ?_
  refine gop fun K20 hK20 => ?_
  refine go_storeS (n := 1) rfl rfl rfl rfl (by kernel_rfl) rfl rfl rfl ?_
  refine hK20 _ _ ?_
  refine gas ?_
  refine gnt (hK19 _ _ ?_)
  refine gc_ret ?_
  refine gk_then_ret ?_
  refine ret_SI (n := 1) rfl rfl rfl Tryz.underlying31 rfl (by kernel_rfl) rfl (fun w M => ?_)
  have hn := ask_n hc0 cat0 X n; rw [hn.2.1, hn.2.2]; exact retFI_zero M.1
 ·try simp only [sA] at hc0
  refine gc_skip ?_
  refine gk_then (hK14 _ _ ?_)
  refine gc_seq fun K21 hK21 => ?_
  have hx := ask_x hc0
  have hI := hx.1
  have hel := (isCat_of hI).toShapeP.el
  simp only [show objCat c [x] = c from if_pos hc0]
  refine gc_region ?_
  refine gv (qts Tryz.underlying29 (n := 7)) ?_
  refine gop fun K23 hK23 => ?_
  refine go_callFI rfl rfl rfl Tryz.func67 rfl (by decide) rfl (fun w M => impl_IdentityFunctor w _ _ (rdC_mk ((mem_own1 (n := 3) M rfl).rd) ((mem_own1 (n := 4) M rfl).rd) ((mem_own1 (n := 5) M rfl).rd) (mem_rdU (n := 6) M rfl))) ?_
  intro fx1_22 fk1_22 fx2_22 fk2_22 fx3_22 fk3_22 fx4_22 fk4_22 fx5_22 fk5_22 fx6_22 fk6_22 fx7_22 fk7_22 fx8_22 fk8_22 fx9_22 fk9_22 fx10_22 fk10_22 us22 ut22
  refine hK23 _ _ ?_
  refine gm ?_
  refine gv (qt_extract rfl rfl rfl) ?_
  refine gv (qt_extract rfl rfl rfl) ?_
  refine gop fun K25 hK25 => ?_
  refine go_alloc (z := (.agg #[.int .i64 0, .slice none 0 0, .slice none 0 0, .slice none 0 0, .slice none 0 0, .int .i64 0, .slice none 0 0, .slice none 0 0, .slice none 0 0, .slice none 0 0, .slice none 0 0, .slice none 0 0])) (cs := [.int .i64 0, .slice none 0 0, .slice none 0 0, .slice none 0 0, .slice none 0 0, .int .i64 0, .slice none 0 0, .slice none 0 0, .slice none 0 0, .slice none 0 0, .slice none 0 0, .slice none 0 0]) rfl rfl rfl (fun w => by kernel_rfl) rfl ?_
  intro B24
  refine hK25 _ _ ?_
  refine gop fun K26 hK26 => ?_
  refine go_storeS (n := 18) rfl rfl rfl rfl (by kernel_rfl) rfl rfl rfl ?_
  refine hK26 _ _ ?_
  refine gas ?_
  refine gnt (hK21 _ _ ?_)
  refine gc_seq fun K27 hK27 => ?_
  simp only [idf_t hI]
  try simp only [sL]
  refine ga_start _ (fun w M => mem_erase 1 (M)) ?_
  refine gav 0 rfl (qt_move rfl rfl) ?_
  refine gav 1 rfl (qts Tryz.underlying31 (n := 17)) ?_
  refine gav 2 rfl (qts Tryz.underlying29 (n := 6)) ?_
  refine gav 3 rfl (qt_move rfl rfl) ?_
  refine gao 4 fun K29 hK29 => ?_
  refine go_callPt rfl rfl rfl Tryz.func93 rfl (by decide) rfl (fun w M => pointAt_any w c x _ _ _ _ _ _ _ _ (rdC_mk ((mem_own1 (n := 3) M rfl).rd) ((mem_own1 (n := 4) M rfl).rd) ((mem_own1 (n := 5) M rfl).rd) (mem_rdU (n := 6) M rfl)) hx.2.1 (by omega)) ?_
  intro pa28 pb28 pc28 pd28 pe28 pf28 pg28 ph28 pi28 pj28 pk28 pl28 pm28
  refine hK29 _ _ (fun w M => (mem_erase 1 (mem_take 19 M) :)) ?_
  refine gao 5 fun K31 hK31 => ?_
  refine go_callVFI rfl rfl rfl rfl rfl (fun w M => hask hI hx.2 w _ _ M.1 (rdF_mk (F := selfF c) ((mem_own1 (n := 8) M rfl).rd) ((mem_own1 (n := 9) M rfl).rd) ((mem_own1 (n := 10) M rfl).rd) (mem_rdU (n := 11) M rfl) ((mem_own1 (n := 12) M rfl).rd) ((mem_own1 (n := 13) M rfl).rd) ((mem_own1 (n := 14) M rfl).rd) (mem_rdU (n := 15) M rfl) ((mem_own1 (n := 16) M rfl).rd) ((mem_own1 (n := 17) M rfl).rd)) (rdF_mk (F := pntF c x) ((mem_own1 (n := 19) M rfl).rd) ((mem_own1 (n := 20) M rfl).rd) ((mem_own1 (n := 21) M rfl).rd) (mem_rdU (n := 22) M rfl) ((mem_own1 (n := 3) M rfl).rd) ((mem_own1 (n := 4) M rfl).rd) ((mem_own1 (n := 5) M rfl).rd) (mem_rdU (n := 6) M rfl) ((mem_own1 (n := 23) M rfl).rd) ((mem_own1 (n := 24) M rfl).rd))) ?_
  intro za1_30 zk1_30 za2_30 zk2_30 za3_30 zk3_30 za4_30 zk4_30 za5_30 zk5_30 za6_30 zk6_30 za7_30 zk7_30 za8_30 zk8_30 za9_30 zk9_30 za10_30 zk10_30 zu30 zv30
  refine hK31 _ _ (fun w M => (mem_erase 1 (mem_take 19 M) :)) ?_
  refine gav 6 rfl (qt_extract rfl rfl rfl) ?_
  refine gav 7 rfl (qt_extract rfl rfl rfl) ?_
  refine gao 8 fun K32 hK32 => ?_
  refine go_storeS (n := 1) rfl rfl rfl rfl (by kernel_rfl) rfl rfl rfl ?_
  refine hK32 _ _ (fun w M => (mem_erase 1 (mem_take 19 M) :)) ?_
  refine gav 9 rfl (qt_assign rfl rfl) ?_
  refine ga_done (by kernel_rfl) ?_
  refine gk_then (hK27 _ _ ?_)
  refine gc_ret ?_
  refine ret_SI (n := 1) rfl rfl rfl Tryz.underlying31 rfl (by kernel_rfl) rfl (fun w M => ?_)
  try simp only [sL] at M
  have hn := ask_t hc0 cat0 X n; rw [hn.2.1, hn.2.2]; exact retFI_star (F := X) (mem_block 25 10 (M))
set_option maxHeartbeats 4000000 in
set_option maxRecDepth 100000 in
theorem askCoF1_any (w : World) (B : Nat) (v : Value) (F : Fct) (u : Value) (G : Fct) (h : RdF w v F) (e : RdF w u G) (fv : Value) (hbB : BxV w B 33 (.agg #[fv])) (X : Fct) (n : Int) (hask : ∀ w', Below w.heap.size w w' → RdF w' u G → RdF w' v F → CallsV fv [u, v] w' (RetFI w' X n)) :
  Calls Tryz.prog 95 #[v, u, .pointer (some ⟨B, 0, none⟩)] w (RetFI w X n) := by
 have h0 := h
 obtain ⟨vx1, vx2, vx3, vx4, vx5, vx6, vx7, vx8, vx9, vx10, vk1, vk2, vk3, vk4, vk5, vk6, vk7, vk8, vk9, vk10, rfl, h1, h2, h3, h4, h5, h6, h7, h8, h9, h10⟩ := h.lists
 have e0 := e
 obtain ⟨ux1, ux2, ux3, ux4, ux5, ux6, ux7, ux8, ux9, ux10, uk1, uk2, uk3, uk4, uk5, uk6, uk7, uk8, uk9, uk10, rfl, e1, e2, e3, e4, e5, e6, e7, e8, e9, e10⟩ := e.lists
 go_enter Tryz.func95, Tryz.ntmps95
 refine gc_enter (N := 13) rfl (look_cons (k := 0) rfl (look_cons (k := 1) rfl (look_cons (k := 2) rfl (look_nil _)))) ?_
 refine gc_sr fun K1 hK1 => ?_
 refine gop fun K3 hK3 => ?_
 refine go_box rfl rfl rfl rfl rfl ?_
 intro B2
 refine hK3 _ _ ?_
 refine gop fun K5 hK5 => ?_
 refine go_box rfl rfl rfl rfl rfl ?_
 intro B4
 refine hK5 _ _ ?_
 refine gop fun K7 hK7 => ?_
 refine go_alloc (z := (.agg #[.int .i64 0, .slice none 0 0, .slice none 0 0, .slice none 0 0, .slice none 0 0, .int .i64 0, .slice none 0 0, .slice none 0 0, .slice none 0 0, .slice none 0 0, .slice none 0 0, .slice none 0 0])) (cs := [.int .i64 0, .slice none 0 0, .slice none 0 0, .slice none 0 0, .slice none 0 0, .int .i64 0, .slice none 0 0, .slice none 0 0, .slice none 0 0, .slice none 0 0, .slice none 0 0, .slice none 0 0]) rfl rfl rfl (fun w => by kernel_rfl) rfl ?_
 intro B6
 refine hK7 _ _ ?_
 refine gas ?_
 refine gnt (hK1 _ _ ?_)
 refine gc_sr fun K8 hK8 => ?_
 refine gv (qt_loadRB hbB rfl rfl Tryz.underlying33 rfl rfl) ?_
 refine gv (qts Tryz.underlying31 (n := 1)) ?_
 refine gv (qts Tryz.underlying31 (n := 0)) ?_
 refine gop fun K10 hK10 => ?_
 refine go_callVFI rfl rfl rfl rfl rfl (fun w M => hask w M.1 (mem_rdF M e0) (mem_rdF M h0)) ?_
 intro za1_9 zk1_9 za2_9 zk2_9 za3_9 zk3_9 za4_9 zk4_9 za5_9 zk5_9 za6_9 zk6_9 za7_9 zk7_9 za8_9 zk8_9 za9_9 zk9_9 za10_9 zk10_9 zu9 zv9
 refine hK10 _ _ ?_
 refine gv (qt_extract rfl rfl rfl) ?_
 refine gv (qt_extract rfl rfl rfl) ?_
 refine gop fun K11 hK11 => ?_
 refine go_storeS (n := 2) rfl rfl rfl rfl (by kernel_rfl) rfl rfl rfl ?_
 refine hK11 _ _ ?_
 refine gas ?_
 refine gnt (hK8 _ _ ?_)
 refine gc_ret ?_
 refine ret_SI (n := 2) rfl rfl rfl Tryz.underlying31 rfl (by kernel_rfl) rfl (fun w M => ?_)
 try simp only [sL] at M
 exact retFI_star (F := X) (mem_block 3 10 (M))
set_option maxHeartbeats 4000000 in
set_option maxRecDepth 100000 in
theorem askCoF_any (w : World) (v : Value) (c : Cat) (x : Int) (h : RdC w v c) (fv : Value) (hv : IsFn fv) (X : Fct) (n : Int) (hask : fIsCategory c = true → (0 ≤ x ∧ x < c.ob) → ∀ (w' : World) (v1 v2 : Value), Below w.heap.size w w' → RdF w' v1 (pntF c x) → RdF w' v2 (selfF c) → CallsV fv [v1, v2] w' (RetFI w' X n)) :
  Calls Tryz.prog 65 #[v, .int .i64 x, fv] w (RetFI w (askF c x X) (askN c x n)) := by
 have h0 := h
 obtain ⟨va, vb, vc, vd, ve, vf, vg, vh, rfl, h1, h2, h3, h4, _⟩ := h.lists
 go_enter Tryz.func65, Tryz.ntmps65
 refine gc_enter (N := 14) rfl (look_cons (k := 0) rfl (look_cons (k := 1) rfl (look_cons (k := 2) rfl (look_nil _)))) ?_
 refine gc_sr fun K1 hK1 => ?_
 refine gop fun K3 hK3 => ?_
 refine go_box rfl rfl rfl rfl rfl ?_
 intro B2
 refine hK3 _ _ ?_
 refine gop fun K5 hK5 => ?_
 refine go_box rfl rfl rfl rfl hv.cells ?_
 intro B4
 refine hK5 _ _ ?_
 refine gop fun K7 hK7 => ?_
 refine go_alloc (z := (.agg #[.int .i64 0, .slice none 0 0, .slice none 0 0, .slice none 0 0, .slice none 0 0, .int .i64 0, .slice none 0 0, .slice none 0 0, .slice none 0 0, .slice none 0 0, .slice none 0 0, .slice none 0 0])) (cs := [.int .i64 0, .slice none 0 0, .slice none 0 0, .slice none 0 0, .slice none 0 0, .int .i64 0, .slice none 0 0, .slice none 0 0, .slice none 0 0, .slice none 0 0, .slice none 0 0, .slice none 0 0]) rfl rfl rfl (fun w => by kernel_rfl) rfl ?_
 intro B6
 refine hK7 _ _ ?_
 refine gas ?_
 refine gnt (hK1 _ _ ?_)
 refine gc_sr fun K8 hK8 => ?_
 refine gv (qts Tryz.underlying29 (n := 0)) ?_
 refine gm ?_
 refine gv (qt_makeF rfl rfl) ?_
 refine gop fun K10 hK10 => ?_
 refine go_callFI rfl rfl rfl Tryz.func63 rfl (by decide) rfl (fun w M => askSlF_any w _ _ _ (mem_rdC M h0) _ (X) (n) (fun hI hx w' v1 v2 hb r1 r2 => callsV_f (bnd := []) (vs := [_, _]) (caps := [_]) Tryz.func95 rfl (by decide) (askCoF1_any w' _ v1 (selfF c) v2 (pntF c x) r1 r2 fv (bxV_below hb (bxV_of (n := 1) M rfl)) X n (fun w2 hb2 s1 s2 => hask hI hx w2 v2 v1 ((M.1.trans (hb.mono M.1.size)).trans (hb2.mono (M.1.trans (hb.mono M.1.size)).size)) s1 s2)))) ?_
 intro fx1_9 fk1_9 fx2_9 fk2_9 fx3_9 fk3_9 fx4_9 fk4_9 fx5_9 fk5_9 fx6_9 fk6_9 fx7_9 fk7_9 fx8_9 fk8_9 fx9_9 fk9_9 fx10_9 fk10_9 us9 ut9
 refine hK10 _ _ ?_
 refine gv (qt_extract rfl rfl rfl) ?_
 refine gv (qt_extract rfl rfl rfl) ?_
 refine gop fun K11 hK11 => ?_
 refine go_storeS (n := 2) rfl rfl rfl rfl (by kernel_rfl) rfl rfl rfl ?_
 refine hK11 _ _ ?_
 refine gas ?_
 refine gnt (hK8 _ _ ?_)
 refine gc_ret ?_
 refine ret_SI (n := 2) rfl rfl rfl Tryz.underlying31 rfl (by kernel_rfl) rfl (fun w M => ?_)
 try simp only [sL] at M
 exact retFI_star (F := askF c x X) (mem_block 3 10 (M))
set_option maxHeartbeats 1000000 in
set_option maxRecDepth 100000 in
theorem specOne_any (w : World) (_u : Unit) :
  Calls Tryz.prog 91 #[] w (RetC w oneC) := by
 go_enter Tryz.func91, Tryz.ntmps91
 refine gc_enter (N := 4) rfl (look_nil _) ?_
 refine gc_sr fun K1 hK1 => ?_
 refine gop fun K3 hK3 => ?_
 refine go_alloc (z := (.agg #[.int .i64 0, .slice none 0 0, .slice none 0 0, .slice none 0 0, .slice none 0 0])) (cs := [.int .i64 0, .slice none 0 0, .slice none 0 0, .slice none 0 0, .slice none 0 0]) rfl rfl rfl (fun w => by kernel_rfl) rfl ?_
 intro B2
 refine hK3 _ _ ?_
 refine gnt (hK1 _ _ ?_)
 refine gc_sr fun K4 hK4 => ?_
 refine gop fun K6 hK6 => ?_
 refine go_slice1 rfl rfl rfl rfl Tryz.underlying22 ?_
 intro B5
 refine hK6 _ _ ?_
 refine gop fun K8 hK8 => ?_
 refine go_sliceR1 (m := 1) rfl rfl rfl rfl Tryz.underlying23 rfl ?_
 intro B7
 refine hK8 _ _ ?_
 refine gop fun K10 hK10 => ?_
 refine go_callC rfl rfl rfl Tryz.func122 rfl (by decide) rfl (fun w M => specPoset_any w _ ([[1]]) (mem_rdU (n := 1) M rfl) (by have := (chR_pre 1).1; rw [one_chain] at this; exact this) (by decide)) ?_
 intro ca9 cb9 cc9 cd9 ce9 cf9 cg9 ch9 cu9
 refine hK10 _ _ ?_
 refine gop fun K11 hK11 => ?_
 refine go_storeS (n := 0) rfl rfl rfl rfl (by kernel_rfl) rfl rfl rfl ?_
 refine hK11 _ _ ?_
 refine gnt (hK4 _ _ ?_)
 refine gc_ret ?_
 refine ret_S (n := 0) rfl rfl Tryz.underlying29 rfl (by kernel_rfl) rfl (fun w M => ?_)
 exact ⟨_, rfl, ownC_star (mem_pick (n := 5) (mem_pick (n := 5) (mem_pick (n := 5) (mem_pick (n := 5) (M) rfl) rfl) rfl) rfl).2, M.1⟩
set_option maxHeartbeats 2000000 in
set_option maxRecDepth 100000 in
theorem specPoint_any (w : World) (v : Value) (c : Cat) (x : Int) (h : RdC w v c) (gS : ShapeP c) (hx : 0 ≤ x ∧ x < c.ob) :
  Calls Tryz.prog 56 #[v, .int .i64 x] w (RetFn w (pntF c x)) := by
 have h0 := h
 obtain ⟨va, vb, vc, vd, ve, vf, vg, vh, rfl, h1, h2, h3, h4, _⟩ := h.lists
 go_enter Tryz.func56, Tryz.ntmps56
 refine gc_enter (N := 9) rfl (look_cons (k := 0) rfl (look_cons (k := 1) rfl (look_nil _))) ?_
 refine gc_sr fun K1 hK1 => ?_
 refine gop fun K3 hK3 => ?_
 refine go_box rfl rfl rfl rfl rfl ?_
 intro B2
 refine hK3 _ _ ?_
 refine gop fun K5 hK5 => ?_
 refine go_alloc (z := (.agg #[.int .i64 0, .slice none 0 0, .slice none 0 0, .slice none 0 0, .slice none 0 0, .int .i64 0, .slice none 0 0, .slice none 0 0, .slice none 0 0, .slice none 0 0, .slice none 0 0, .slice none 0 0])) (cs := [.int .i64 0, .slice none 0 0, .slice none 0 0, .slice none 0 0, .slice none 0 0, .int .i64 0, .slice none 0 0, .slice none 0 0, .slice none 0 0, .slice none 0 0, .slice none 0 0, .slice none 0 0]) rfl rfl rfl (fun w => by kernel_rfl) rfl ?_
 intro B4
 refine hK5 _ _ ?_
 refine gnt (hK1 _ _ ?_)
 refine gc_seq fun K6 hK6 => ?_
 try simp only [sL]
 refine ga_start _ (fun w M => mem_erase 1 (M)) ?_
 refine gav 1 rfl (qts Tryz.underlying29 (n := 0)) ?_
 refine gav 2 rfl (qt_move rfl rfl) ?_
 refine gao 0 fun K8 hK8 => ?_
 refine go_callC rfl rfl rfl Tryz.func91 rfl (by decide) rfl (fun w M => specOne_any w ()) ?_
 intro ca7 cb7 cc7 cd7 ce7 cf7 cg7 ch7 cu7
 refine hK8 _ _ (fun w M => (mem_erase 1 (mem_take 2 M) :)) ?_
 refine gao 3 fun K10 hK10 => ?_
 refine go_callFn rfl rfl rfl Tryz.func90 rfl (by decide) rfl (fun w M => specConst_any w _ _ _ _ _ (rdC_mk ((mem_own1 (n := 2) M rfl).rd) ((mem_own1 (n := 3) M rfl).rd) ((mem_own1 (n := 4) M rfl).rd) (mem_rdU (n := 5) M rfl)) (mem_rdC M h0) (oneC_shape) (gS) (hx)) ?_
 intro fx1_9 fk1_9 fx2_9 fk2_9 fx3_9 fk3_9 fx4_9 fk4_9 fx5_9 fk5_9 fx6_9 fk6_9 fx7_9 fk7_9 fx8_9 fk8_9 fx9_9 fk9_9 fx10_9 fk10_9 us9 ut9
 refine hK10 _ _ (fun w M => (mem_erase 1 (mem_take 2 M) :)) ?_
 refine gao 4 fun K11 hK11 => ?_
 refine go_storeS (n := 1) rfl rfl rfl rfl (by kernel_rfl) rfl rfl rfl ?_
 refine hK11 _ _ (fun w M => (mem_erase 1 (mem_take 2 M) :)) ?_
 refine ga_done (by kernel_rfl) ?_
 refine gk_then (hK6 _ _ ?_)
 refine gc_ret ?_
 refine ret_S (n := 1) rfl rfl Tryz.underlying31 rfl (by kernel_rfl) rfl (fun w M => ?_)
 try simp only [sL] at M
 rw [← constF_pnt]; exact retFn_star (F := constF oneC c x) (mem_block 6 10 (M))
set_option maxHeartbeats 1000000 in
set_option maxRecDepth 100000 in
theorem specObj9_any (w : World) (v : Value) (c : Cat) (x : Int) (h : RdC w v c) :
  Calls Tryz.prog 53 #[v, .int .i64 x] w (RetI w (objErr c [x])) := by
 have h0 := h
 obtain ⟨va, vb, vc, vd, ve, vf, vg, vh, rfl, h1, h2, h3, h4, _⟩ := h.lists
 go_enter Tryz.func53, Tryz.ntmps53
 refine gc_enter (N := 9) rfl (look_cons (k := 0) rfl (look_cons (k := 1) rfl (look_nil _))) ?_
 refine gc_sr fun K1 hK1 => ?_
 refine gop fun K3 hK3 => ?_
 refine go_box rfl rfl rfl rfl rfl ?_
 intro B2
 refine hK3 _ _ ?_
 refine gas ?_
 refine gnt (hK1 _ _ ?_)
 refine gc_sr fun K4 hK4 => ?_
 refine gv (qts Tryz.underlying29 (n := 0)) ?_
 refine gm ?_
 refine gop fun K6 hK6 => ?_
 refine go_slice1 rfl rfl rfl rfl Tryz.underlying22 ?_
 intro B5
 refine hK6 _ _ ?_
 refine g_q (.free rfl) rfl rfl (qt_call rfl Tryz.func89 rfl (by decide) rfl (fun w M => specobj_any w _ _ _ ([x]) (mem_rdC M h0) ((mem_own1 (n := 1) M rfl).rd))) ?_
 refine gas ?_
 refine gnt (hK4 _ _ ?_)
 refine gc_ret ?_
 refine ret_1 rfl rfl  (fun w M => ?_)
 exact ⟨rfl, M.1⟩
end Go.Proofs.YtpcabkdkdnchaaaGreat
