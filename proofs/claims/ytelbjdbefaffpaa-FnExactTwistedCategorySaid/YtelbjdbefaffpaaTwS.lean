
/- Twisted arrows: the model's category of them. -/
import Derived.Test.YtelbjdbefaffpaaTw
import Derived.Test.YtelbjdbefaffpaaPlanP
import Derived.Test.YtelbjdbefaffpaaGrid
set_option linter.unusedSimpArgs false
set_option linter.unusedVariables false
set_option linter.unusedSectionVars false
namespace Go.Proofs.Ytelbjdbefaffpaa
open Go.RowKit


theorem fill4i (f : Nat → Value) (a b c d : Value) : ((((Array.map f (Array.range 4)).setIfInBounds 0 a).setIfInBounds 1 b).setIfInBounds 2 c).setIfInBounds 3 d = #[a, b, c, d] := by
  apply Array.ext'
  simp only [Array.toList_setIfInBounds, Array.toList_map, Array.toList_range]
  rfl
def RetCX (W : World) (c : Cat) (e : Ending) (w' : World) : Prop := ∃ v u, e = .returned (.tuple #[v, u]) ∧ OwnC v c w' (fun k => W.heap.size ≤ k) ∧ Below W.heap.size W w'
section
variable {w0 : World} {is : List Itm} {ops : Array Oper} {Q : Exit → Act → World → Prop} {o : Oper} {N n : Nat} {e : Env} {v : Value} {d : Nat} {K : Act → World → Prop} {f : FuncId} {fn : Func} {ags : Array Operand} {ts : Array TypeId} {vs : List Value}
theorem go_slice4 {t : TypeId} {x1 x2 x3 x4 : Operand} {a b c g : Int} (hd : o.dst = some d) (hN : Nat.blt d N = true) (hop : o.op = .buildSlice t 4 #[(0, x1), (1, x2), (2, x3), (3, x4)]) (h1 : evo e x1 = some (.int .i64 a)) (h2 : evo e x2 = some (.int .i64 b)) (h3 : evo e x3 = some (.int .i64 c)) (h4 : evo e x4 = some (.int .i64 g)) (ht : Try.prog.underlying t = some (.slice 2))
    (hk : ∀ B : Nat, GK w0 (is ++ [own1I (.slice (some ⟨B, 0, none⟩) 4 4) [a, b, c, g]]) N K ((d, .slice (some ⟨B, 0, none⟩) 4 4) :: e)) : GO w0 is N o e Q K := by
  intro w ac M F
  refine go_val (v := .slice (some ⟨w.heap.size, 0, none⟩) 4 4) (w' := w.alloc (.cells #[.int .i64 a, .int .i64 b, .int .i64 c, .int .i64 g] 2)) hd hN F ?_ fun ac F => hk _ _ ac (mem_row (xs := [a, b, c, g]) M (by simp)) F
  intro ρ F
  have h1 := F _ _ h1; have h2 := F _ _ h2; have h3 := F _ _ h3; have h4 := F _ _ h4
  obtain ⟨i, hi, hz, hs, hb⟩ := info_parts info64
  simp [execOp, hop, h1, h2, h3, h4, Instr.buildSlice, run_underlying ht, sizeOf, typeInfo, hi, hs, Instr.fill, newRow, zeroValue, hz, Value.cells, Sem.run_bind]
  rw [fill4i]
theorem go_callCX {c : Cat} (hd : o.dst = some d) (hN : Nat.blt d N = true) (hop : o.op = .call { callee := .value (.func f), args := ags, argTypes := ts }) (hfn : Try.prog.funcs[f]? = some fn) (hb : fn.body.isNone = false) (hn : (fn.name == "runtime.NumGoroutine") = false)
    (hargs : evoL e ags.toList = some vs) (hc : ∀ w, Mem w0 w is → Calls Try.prog f vs.toArray w (RetCX w c)) (hk : ∀ a1 k1 a2 k2 a3 k3 a4 k4 uu z, GK w0 (is ++ [own1I (.slice a1 c.s.length k1) c.s, own1I (.slice a2 c.t.length k2) c.t, own1I (.slice a3 c.e.length k3) c.e, own2U (.slice a4 c.m.length k4) uu c.m]) N K ((d, .tuple #[.agg #[.int .i64 c.ob, .slice a1 c.s.length k1, .slice a2 c.t.length k2, .slice a3 c.e.length k3, .slice a4 c.m.length k4], z]) :: e)) : GO w0 is N o e Q K := by
  intro w a M F
  refine go_call hd hN F hop hfn hb hn hargs (hc w M) fun e' w' hR => ?_
  obtain ⟨v, z, rfl, hs, hbl⟩ := hR
  obtain ⟨a1, a2, a3, a4, k1, k2, k3, k4, uu, rfl, hst⟩ := star_ownC hs
  exact ⟨_, rfl, fun a F => hk a1 k1 a2 k2 a3 k3 a4 k4 uu z w' a (mem_news M hbl hst) F⟩
end
/-! ### What the model makes of the list -/
noncomputable def lastI (L : List (List Int)) (d : List Int) : Nat → Int
  | 0 => -1
  | k + 1 => if bP (row2 L (k : Int) = d) = true then (k : Int) else lastI L d k
theorem lastI_t {L : List (List Int)} {d : List Int} {k : Nat} (h : row2 L (k : Int) = d) : (k : Int) = lastI L d (k + 1) := by rw [lastI, if_pos (bP_t h)]
theorem lastI_f {L : List (List Int)} {d : List Int} {k : Nat} (h : ¬ row2 L (k : Int) = d) : lastI L d k = lastI L d (k + 1) := by rw [lastI, if_neg (by rw [bP_f h]; decide)]
theorem lastI_rng (L : List (List Int)) (d : List Int) : ∀ k, -1 ≤ lastI L d k ∧ lastI L d k < k
  | 0 => by simp [lastI]
  | k + 1 => by
    have ih := lastI_rng L d k
    rw [lastI]; split
    · omega
    · omega
def UnTw (c : Cat) (i : Nat) : Prop := (at0 (row2 (twR c) (i : Int)) 0 = at0 (row2 (twR c) (i : Int)) 1 ∧ at0 c.e (at0 c.s (at0 (row2 (twR c) (i : Int)) 2)) = at0 (row2 (twR c) (i : Int)) 2) ∧ at0 c.e (at0 c.s (at0 (row2 (twR c) (i : Int)) 3)) = at0 (row2 (twR c) (i : Int)) 3
noncomputable def twI (c : Cat) : Nat → List Int
  | 0 => List.replicate c.s.length 0
  | i + 1 => if bP (UnTw c i) = true then (twI c i).set (at0 (row2 (twR c) (i : Int)) 0).toNat (i : Int) else twI c i
theorem twI_t {c : Cat} {i : Nat} (h : UnTw c i) : (twI c i).set (at0 (row2 (twR c) (i : Int)) 0).toNat (i : Int) = twI c (i + 1) := by rw [twI, if_pos (bP_t h)]
theorem twI_f {c : Cat} {i : Nat} (h : ¬ UnTw c i) : twI c i = twI c (i + 1) := by rw [twI, if_neg (by rw [bP_f h]; decide)]
theorem twI_len (c : Cat) : ∀ i, (twI c i).length = c.s.length
  | 0 => by simp [twI]
  | i + 1 => by rw [twI]; split <;> simp [twI_len c i]
noncomputable def dueT (c : Cat) (i j : Nat) : List Int := [at0 (row2 (twR c) (i : Int)) 0, at0 (row2 (twR c) (j : Int)) 1, c.th (at0 (row2 (twR c) (j : Int)) 2) (at0 (row2 (twR c) (i : Int)) 2), c.th (at0 (row2 (twR c) (i : Int)) 3) (at0 (row2 (twR c) (j : Int)) 3)]
open Classical in
noncomputable def twC (c : Cat) (i j : Nat) : Int := if at0 (row2 (twR c) (i : Int)) 1 = at0 (row2 (twR c) (j : Int)) 0 then lastI (twR c) (dueT c i j) (twR c).length else -1
theorem twC_t {c : Cat} {i j : Nat} (h : at0 (row2 (twR c) (i : Int)) 1 = at0 (row2 (twR c) (j : Int)) 0) : lastI (twR c) (dueT c i j) (twR c).length = twC c i j := (if_pos h).symm
theorem twC_f {c : Cat} {i j : Nat} (h : ¬ at0 (row2 (twR c) (i : Int)) 1 = at0 (row2 (twR c) (j : Int)) 0) : (-1 : Int) = twC c i j := (if_neg h).symm
noncomputable def twRow (c : Cat) (i : Nat) : List Int := tabTo (twC c i) (twR c).length
noncomputable def twRows (c : Cat) : List (List Int) := if (twR c).length ≤ 40 then rowsTo (twRow c) (twR c).length else []
noncomputable def twM (c : Cat) : Cat := ⟨c.s.length, tabTo (fun j => at0 (row2 (twR c) (j : Int)) 0) (twR c).length, tabTo (fun j => at0 (row2 (twR c) (j : Int)) 1) (twR c).length, twI c (twR c).length, twRows c⟩
/-- A row of the list, read off its entry. -/
structure RowP (c : Cat) (r : List Int) : Prop where
  len : r.length = 4
  r0 : 0 ≤ at0 r 0 ∧ at0 r 0 < c.s.length
  r1 : 0 ≤ at0 r 1 ∧ at0 r 1 < c.s.length
  r2 : 0 ≤ at0 r 2 ∧ at0 r 2 < c.s.length
  r3 : 0 ≤ at0 r 3 ∧ at0 r 3 < c.s.length
  s2 : at0 c.s (at0 r 2) = at0 c.s (at0 r 1)
  t2 : at0 c.t (at0 r 2) = at0 c.s (at0 r 0)
  s3 : at0 c.s (at0 r 3) = at0 c.t (at0 r 0)
  t3 : at0 c.t (at0 r 3) = at0 c.t (at0 r 1)
  eq : c.th (c.th (at0 r 2) (at0 r 0)) (at0 r 3) = at0 r 1
theorem mem_hom2 {c : Cat} {x y z : Int} {n : Nat} (h : z ∈ homTo c x y n) : 0 ≤ z ∧ z < n ∧ at0 c.s z = x ∧ at0 c.t z = y := by
  obtain ⟨k, hk, he⟩ := List.getElem_of_mem h
  have := homTo_at (c := c) (x := x) (y := y) (n := n) (k := k) hk
  rw [at0_nat, List.getD_eq_getElem?_getD, List.getElem?_eq_getElem hk, Option.getD_some, he] at this
  exact this
theorem rowP_of {c : Cat} {e : Ent (Int × Int)} (h : TwP c e) : RowP c (rowTw e) := by
  obtain ⟨f, g, hf, hg, h1, h2, hu, hv, hb⟩ := h
  obtain ⟨a, b, u, v⟩ := e
  simp only at h1 h2 hu hv hb
  subst h1; subst h2
  have h3 := mem_hom2 hu; have h4 := mem_hom2 hv
  exact ⟨rfl, ⟨by show (0 : Int) ≤ (f : Int); omega, by show (f : Int) < _; omega⟩, ⟨by show (0 : Int) ≤ (g : Int); omega, by show (g : Int) < _; omega⟩, ⟨h3.1, h3.2.1⟩, ⟨h4.1, h4.2.1⟩, h3.2.2.1, h3.2.2.2, h4.2.2.1, h4.2.2.2, hb⟩
theorem twR_len (c : Cat) : (twR c).length = (twE c).length := by rw [twR_eq, List.length_map]
theorem twR_row {c : Cat} {i : Nat} (h : i < (twR c).length) : row2 (twR c) (i : Int) = rowTw (atE (twE c) (i : Int)) := by
  have h2 : i < (twE c).length := by rw [← twR_len]; exact h
  rw [atE_eq h2, row2_of, Int.toNat_natCast, List.getD_eq_getElem?_getD, List.getElem?_eq_getElem h, Option.getD_some]
  simp [twR_eq]
theorem twR_P {c : Cat} {i : Nat} (h : i < (twR c).length) : RowP c (row2 (twR c) (i : Int)) := by
  rw [twR_row h]; exact rowP_of (twE_mem.1 (atE_mem (by rw [← twR_len]; exact h)))
theorem twR_big {c : Cat} (hn : c.s.length ≤ 40) : (twR c).length ≤ 2560000 := by
  have := tw1_len hn emR (c := c) c.s.length
  unfold twR; omega

set_option maxHeartbeats 4000000 in
set_option maxRecDepth 100000 in
theorem specTwisted_any (w : World) (v : Value) (c : Cat) (h : RdC w v c) (hS : ShapeP c) :
    Calls Try.prog 49 #[v] w (RetCX w (twM c)) := by
  have h0 := h
  obtain ⟨va, vb, vc, vd, ve, vf, vg, vh, rfl, h1, h2, h3, h4, _⟩ := h.lists
  have hn40 := hS.n40; have htl := hS.tl; have hel := hS.el; have hob0 := hS.ob0; have hob8 := hS.ob8; have hml := hS.ml
  have hbig := twR_big hn40
  go_enter Try.func49, Try.ntmps49
  refine gc_enter (N := 244) rfl (look_cons (k := 0) rfl (look_nil _)) ?_
  refine gc_seq fun K1 hK1 => ?_
  refine gc_region ?_
  refine g_op (.free rfl) fun K3 hK3 => ?_
  refine go_box rfl rfl rfl rfl rfl ?_
  intro B2
  refine hK3 _ _ ?_
  refine g_op (.free rfl) fun K5 hK5 => ?_
  refine go_alloc (z := (.agg #[.int .i64 0, .slice none 0 0, .slice none 0 0, .slice none 0 0, .slice none 0 0])) (cs := [.int .i64 0, .slice none 0 0, .slice none 0 0, .slice none 0 0, .slice none 0 0]) rfl rfl rfl (fun w => by kernel_rfl) rfl ?_
  intro B4
  refine hK5 _ _ ?_
  refine g_v (.free rfl) rfl rfl (qt_assign rfl rfl) ?_
  refine g_nil ?_
  refine gk_then (hK1 _ _ ?_)
  refine gc_seq fun K6 hK6 => ?_
  refine gc_region ?_
  refine g_v (.free rfl) rfl rfl (qt_field (z := 0) (off := 1) rfl rfl Try.underlying29 rfl (by kernel_rfl) rfl) ?_
  refine g_v (.free rfl) rfl rfl (qt_loadB (n := 0) rfl rfl Try.underlying22 rfl rfl rfl) ?_
  refine g_v (.free rfl) rfl rfl (qt_len rfl rfl ulE1 (fun w M => lenV_rd h1)) ?_
  refine g_v (.free rfl) rfl rfl (qt_assign rfl rfl) ?_
  refine g_nil ?_
  refine gk_then (hK6 _ _ ?_)
  refine gc_seq fun K7 hK7 => ?_
  refine gc_region ?_
  refine g_op (.free rfl) fun K9 hK9 => ?_
  refine go_sliceR0 rfl rfl rfl Try.underlying23 ?_
  intro B8
  refine hK9 _ _ ?_
  refine g_v (.free rfl) rfl rfl (qt_assign rfl rfl) ?_
  refine g_nil ?_
  refine gk_then (hK7 _ _ ?_)
  refine gc_seq fun K10 hK10 => ?_
  refine gc_seq fun K11 hK11 => ?_
  refine gc_region ?_
  refine g_v (.free rfl) rfl rfl (qt_assign rfl rfl) ?_
  refine g_nil ?_
  refine gk_then (hK11 _ _ ?_)
  refine gc_block ?_
  try simp only [List.nil_append, List.cons_append, List.append_assoc, List.set_cons_succ, List.set_cons_zero]
  refine gc_loop ([(0, _), (1, _), (2, _), (3, _), (4, _)] : Env) (fun s : Nat × (Option Addr) × Nat × (List Value) => (fun (f : Nat) (a : Option Addr) (q : Nat) (us : List Value) => ([(5, .slice a (tw1 emR c f).length q), (6, .int .i64 (f : Int))] : Env)) s.1 s.2.1 s.2.2.1 s.2.2.2) (fun s : Nat × (Option Addr) × Nat × (List Value) => (fun (f : Nat) (a : Option Addr) (q : Nat) (us : List Value) => ([(2, own2U (.slice a (tw1 emR c f).length q) us (tw1 emR c f))] : List (Nat × Itm))) s.1 s.2.1 s.2.2.1 s.2.2.2) (fun s : Nat × (Option Addr) × Nat × (List Value) => (fun (f : Nat) (a : Option Addr) (q : Nat) (us : List Value) => f ≤ c.s.length) s.1 s.2.1 s.2.2.1 s.2.2.2) (fun s : Nat × (Option Addr) × Nat × (List Value) => (fun (f : Nat) (a : Option Addr) (q : Nat) (us : List Value) => c.s.length - f) s.1 s.2.1 s.2.2.1 s.2.2.2) (0, _, _, _) (sub_cons rfl (sub_cons rfl (sub_cons rfl (sub_cons rfl (sub_cons rfl (sub_cons rfl (sub_cons rfl sub_nil))))))) rfl (Nat.zero_le _) ?_
  rintro ⟨f, a, q, us⟩ hinv KL12 hKL12
  simp only [updL, List.foldl_cons, List.foldl_nil, List.set_cons_succ, List.set_cons_zero, List.cons_append, List.nil_append] at hinv hKL12 ⊢
  have hf := hinv
  refine gc_seq fun K13 hK13 => ?_
  refine gc_seq fun K14 hK14 => ?_
  refine gc_region ?_
  refine g_v (.free rfl) rfl rfl (qt_move rfl rfl) ?_
  refine g_v (.free rfl) rfl rfl (qt_move rfl rfl) ?_
  refine g_v (.free rfl) rfl rfl (qt_lss rfl rfl rfl) ?_
  refine g_nil ?_
  refine gk_then (hK14 _ _ ?_)
  refine gc_cond rfl (fun hc0 => ?_) (fun hc0 => ?_)
  · try simp only [decide_eq_true_eq, decide_eq_false_iff_not, Bool.not_eq_true', Bool.not_eq_false', Bool.not_eq_eq_eq_not, Bool.not_true, Bool.not_false, ne_eq, Decidable.not_not, Classical.not_not] at hc0
    refine gc_skip ?_
    refine gk_then (hK13 _ _ ?_)
    refine gc_seq fun K15 hK15 => ?_
    refine gc_block ?_
    refine gc_seq fun K16 hK16 => ?_
    refine gc_region ?_
    refine g_v (.free rfl) rfl rfl (qt_assign rfl rfl) ?_
    refine g_nil ?_
    refine gk_then (hK16 _ _ ?_)
    refine gc_block ?_
    try simp only [List.nil_append, List.cons_append, List.append_assoc, List.set_cons_succ, List.set_cons_zero]
    refine gc_loop ([(0, _), (1, _), (2, _), (3, _), (4, _), (6, _), (29, _)] : Env) (fun s : Nat × (Option Addr) × Nat × (List Value) => (fun (g : Nat) (a : Option Addr) (q : Nat) (us : List Value) => ([(5, .slice a (tw2 emR c f (tw1 emR c f) g).length q), (7, .int .i64 (g : Int))] : Env)) s.1 s.2.1 s.2.2.1 s.2.2.2) (fun s : Nat × (Option Addr) × Nat × (List Value) => (fun (g : Nat) (a : Option Addr) (q : Nat) (us : List Value) => ([(2, own2U (.slice a (tw2 emR c f (tw1 emR c f) g).length q) us (tw2 emR c f (tw1 emR c f) g))] : List (Nat × Itm))) s.1 s.2.1 s.2.2.1 s.2.2.2) (fun s : Nat × (Option Addr) × Nat × (List Value) => (fun (g : Nat) (a : Option Addr) (q : Nat) (us : List Value) => g ≤ c.s.length) s.1 s.2.1 s.2.2.1 s.2.2.2) (fun s : Nat × (Option Addr) × Nat × (List Value) => (fun (g : Nat) (a : Option Addr) (q : Nat) (us : List Value) => c.s.length - g) s.1 s.2.1 s.2.2.1 s.2.2.2) (0, _, _, _) (sub_cons rfl (sub_cons rfl (sub_cons rfl (sub_cons rfl (sub_cons rfl (sub_cons rfl (sub_cons rfl (sub_cons rfl (sub_cons rfl sub_nil))))))))) rfl (Nat.zero_le _) ?_
    rintro ⟨g, a, q, us⟩ hinv KL17 hKL17
    simp only [updL, List.foldl_cons, List.foldl_nil, List.set_cons_succ, List.set_cons_zero, List.cons_append, List.nil_append] at hinv hKL17 ⊢
    have hg := hinv
    refine gc_seq fun K18 hK18 => ?_
    refine gc_seq fun K19 hK19 => ?_
    refine gc_region ?_
    refine g_v (.free rfl) rfl rfl (qt_move rfl rfl) ?_
    refine g_v (.free rfl) rfl rfl (qt_move rfl rfl) ?_
    refine g_v (.free rfl) rfl rfl (qt_lss rfl rfl rfl) ?_
    refine g_nil ?_
    refine gk_then (hK19 _ _ ?_)
    refine gc_cond rfl (fun hc1 => ?_) (fun hc1 => ?_)
    · try simp only [decide_eq_true_eq, decide_eq_false_iff_not, Bool.not_eq_true', Bool.not_eq_false', Bool.not_eq_eq_eq_not, Bool.not_true, Bool.not_false, ne_eq, Decidable.not_not, Classical.not_not] at hc1
      refine gc_skip ?_
      refine gk_then (hK18 _ _ ?_)
      refine gc_seq fun K20 hK20 => ?_
      refine gc_block ?_
      refine gc_seq fun K21 hK21 => ?_
      have hx := arrP hS (f := (f : Int)) (by omega) (by omega)
      have x1 := hx.fs; have x2 := hx.ft; have x3 := hx.row; have x4 := hx.fm
      have hy := arrP hS (f := (g : Int)) (by omega) (by omega)
      have y1 := hy.fs; have y2 := hy.ft; have y3 := hy.row; have y4 := hy.fm
      try simp only [List.nil_append, List.cons_append, List.append_assoc, List.set_cons_succ, List.set_cons_zero]
      refine gc_cut ([(0, _), (1, _), (2, _), (3, _), (4, _), (5, _), (6, _), (7, _), (29, _), (34, _)] : Env) (fun s : (Option Addr) × Nat × (Option Addr) × Nat => (fun (xa : Option Addr) (xq : Nat) (ya : Option Addr) (yq : Nat) => ([(8, .slice xa (twU c f g).length xq), (9, .slice ya (twV c f g).length yq)] : Env)) s.1 s.2.1 s.2.2.1 s.2.2.2) (fun s : (Option Addr) × Nat × (Option Addr) × Nat => (fun (xa : Option Addr) (xq : Nat) (ya : Option Addr) (yq : Nat) => ([] : List (Nat × Itm))) s.1 s.2.1 s.2.2.1 s.2.2.2) (fun s : (Option Addr) × Nat × (Option Addr) × Nat => (fun (xa : Option Addr) (xq : Nat) (ya : Option Addr) (yq : Nat) => ([own1I (.slice xa (twU c f g).length xq) (twU c f g), own1I (.slice ya (twV c f g).length yq) (twV c f g)] : List Itm)) s.1 s.2.1 s.2.2.1 s.2.2.2) (sub_cons rfl (sub_cons rfl (sub_cons rfl (sub_cons rfl (sub_cons rfl (sub_cons rfl (sub_cons rfl (sub_cons rfl (sub_cons rfl (sub_cons rfl sub_nil)))))))))) ?_ (fun HJ22 => ?_)
      · rintro ⟨xa, xq, ya, yq⟩
        simp only [updL, List.foldl_cons, List.foldl_nil, List.set_cons_succ, List.set_cons_zero, List.cons_append, List.nil_append]
        refine gk_then (hK21 _ _ ?_)
        refine gc_seq fun K23 hK23 => ?_
        refine gc_region ?_
        refine g_v (.free rfl) rfl rfl (qt_assign rfl rfl) ?_
        refine g_nil ?_
        refine gk_then (hK23 _ _ ?_)
        refine gc_block ?_
        try simp only [List.nil_append, List.cons_append, List.append_assoc, List.set_cons_succ, List.set_cons_zero]
        refine gc_loop ([(0, _), (1, _), (2, _), (3, _), (4, _), (6, _), (7, _), (8, _), (9, _), (29, _), (34, _)] : Env) (fun s : Nat × (Option Addr) × Nat × (List Value) => (fun (i : Nat) (a : Option Addr) (q : Nat) (us : List Value) => ([(5, .slice a (tw3 emR c f g (twU c f g) (twV c f g) (tw2 emR c f (tw1 emR c f) g) i).length q), (10, .int .i64 (i : Int))] : Env)) s.1 s.2.1 s.2.2.1 s.2.2.2) (fun s : Nat × (Option Addr) × Nat × (List Value) => (fun (i : Nat) (a : Option Addr) (q : Nat) (us : List Value) => ([(2, own2U (.slice a (tw3 emR c f g (twU c f g) (twV c f g) (tw2 emR c f (tw1 emR c f) g) i).length q) us (tw3 emR c f g (twU c f g) (twV c f g) (tw2 emR c f (tw1 emR c f) g) i))] : List (Nat × Itm))) s.1 s.2.1 s.2.2.1 s.2.2.2) (fun s : Nat × (Option Addr) × Nat × (List Value) => (fun (i : Nat) (a : Option Addr) (q : Nat) (us : List Value) => i ≤ (twU c f g).length) s.1 s.2.1 s.2.2.1 s.2.2.2) (fun s : Nat × (Option Addr) × Nat × (List Value) => (fun (i : Nat) (a : Option Addr) (q : Nat) (us : List Value) => (twU c f g).length - i) s.1 s.2.1 s.2.2.1 s.2.2.2) (0, _, _, _) (sub_cons rfl (sub_cons rfl (sub_cons rfl (sub_cons rfl (sub_cons rfl (sub_cons rfl (sub_cons rfl (sub_cons rfl (sub_cons rfl (sub_cons rfl (sub_cons rfl (sub_cons rfl (sub_cons rfl sub_nil))))))))))))) rfl (Nat.zero_le _) ?_
        rintro ⟨i, a, q, us⟩ hinv KL24 hKL24
        simp only [updL, List.foldl_cons, List.foldl_nil, List.set_cons_succ, List.set_cons_zero, List.cons_append, List.nil_append] at hinv hKL24 ⊢
        have hi := hinv
        refine gc_seq fun K25 hK25 => ?_
        refine gc_seq fun K26 hK26 => ?_
        have hUl := twU_len c f g; have hVl := twV_len c f g
        refine gc_region ?_
        refine g_v (.free rfl) rfl rfl (qt_move rfl rfl) ?_
        refine g_v (.free rfl) rfl rfl (qt_move rfl rfl) ?_
        refine g_v (.free rfl) rfl rfl (qt_len rfl rfl ulE1 (fun w M => lenV_own1 (n := 3) rfl M)) ?_
        refine g_v (.free rfl) rfl rfl (qt_lss rfl rfl rfl) ?_
        refine g_nil ?_
        refine gk_then (hK26 _ _ ?_)
        refine gc_cond rfl (fun hc2 => ?_) (fun hc2 => ?_)
        · try simp only [decide_eq_true_eq, decide_eq_false_iff_not, Bool.not_eq_true', Bool.not_eq_false', Bool.not_eq_eq_eq_not, Bool.not_true, Bool.not_false, ne_eq, Decidable.not_not, Classical.not_not] at hc2
          refine gc_skip ?_
          refine gk_then (hK25 _ _ ?_)
          refine gc_seq fun K27 hK27 => ?_
          refine gc_block ?_
          refine gc_seq fun K28 hK28 => ?_
          refine gc_region ?_
          refine g_v (.free rfl) rfl rfl (qt_assign rfl rfl) ?_
          refine g_nil ?_
          refine gk_then (hK28 _ _ ?_)
          refine gc_block ?_
          try simp only [List.nil_append, List.cons_append, List.append_assoc, List.set_cons_succ, List.set_cons_zero]
          refine gc_loop ([(0, _), (1, _), (2, _), (3, _), (4, _), (6, _), (7, _), (8, _), (9, _), (10, _), (29, _), (34, _), (64, _)] : Env) (fun s : Nat × (Option Addr) × Nat × (List Value) => (fun (j : Nat) (a : Option Addr) (q : Nat) (us : List Value) => ([(5, .slice a (tw4 emR c f g (at0 (twU c f g) (i : Int)) (twV c f g) (tw3 emR c f g (twU c f g) (twV c f g) (tw2 emR c f (tw1 emR c f) g) i) j).length q), (11, .int .i64 (j : Int))] : Env)) s.1 s.2.1 s.2.2.1 s.2.2.2) (fun s : Nat × (Option Addr) × Nat × (List Value) => (fun (j : Nat) (a : Option Addr) (q : Nat) (us : List Value) => ([(2, own2U (.slice a (tw4 emR c f g (at0 (twU c f g) (i : Int)) (twV c f g) (tw3 emR c f g (twU c f g) (twV c f g) (tw2 emR c f (tw1 emR c f) g) i) j).length q) us (tw4 emR c f g (at0 (twU c f g) (i : Int)) (twV c f g) (tw3 emR c f g (twU c f g) (twV c f g) (tw2 emR c f (tw1 emR c f) g) i) j))] : List (Nat × Itm))) s.1 s.2.1 s.2.2.1 s.2.2.2) (fun s : Nat × (Option Addr) × Nat × (List Value) => (fun (j : Nat) (a : Option Addr) (q : Nat) (us : List Value) => j ≤ (twV c f g).length) s.1 s.2.1 s.2.2.1 s.2.2.2) (fun s : Nat × (Option Addr) × Nat × (List Value) => (fun (j : Nat) (a : Option Addr) (q : Nat) (us : List Value) => (twV c f g).length - j) s.1 s.2.1 s.2.2.1 s.2.2.2) (0, _, _, _) (sub_cons rfl (sub_cons rfl (sub_cons rfl (sub_cons rfl (sub_cons rfl (sub_cons rfl (sub_cons rfl (sub_cons rfl (sub_cons rfl (sub_cons rfl (sub_cons rfl (sub_cons rfl (sub_cons rfl (sub_cons rfl (sub_cons rfl sub_nil))))))))))))))) rfl (Nat.zero_le _) ?_
          rintro ⟨j, a, q, us⟩ hinv KL29 hKL29
          simp only [updL, List.foldl_cons, List.foldl_nil, List.set_cons_succ, List.set_cons_zero, List.cons_append, List.nil_append] at hinv hKL29 ⊢
          have hj := hinv
          refine gc_seq fun K30 hK30 => ?_
          refine gc_seq fun K31 hK31 => ?_
          refine gc_region ?_
          refine g_v (.free rfl) rfl rfl (qt_move rfl rfl) ?_
          refine g_v (.free rfl) rfl rfl (qt_move rfl rfl) ?_
          refine g_v (.free rfl) rfl rfl (qt_len rfl rfl ulE1 (fun w M => lenV_own1 (n := 4) rfl M)) ?_
          refine g_v (.free rfl) rfl rfl (qt_lss rfl rfl rfl) ?_
          refine g_nil ?_
          refine gk_then (hK31 _ _ ?_)
          refine gc_cond rfl (fun hc3 => ?_) (fun hc3 => ?_)
          · try simp only [decide_eq_true_eq, decide_eq_false_iff_not, Bool.not_eq_true', Bool.not_eq_false', Bool.not_eq_eq_eq_not, Bool.not_true, Bool.not_false, ne_eq, Decidable.not_not, Classical.not_not] at hc3
            refine gc_skip ?_
            refine gk_then (hK30 _ _ ?_)
            refine gc_seq fun K32 hK32 => ?_
            refine gc_block ?_
            refine gc_seq fun K33 hK33 => ?_
            have hu := homTo_at (c := c) (x := at0 c.s (g : Int)) (y := at0 c.s (f : Int)) (n := c.s.length) (k := i) (show i < (twU c f g).length by omega)
            have hv := homTo_at (c := c) (x := at0 c.t (f : Int)) (y := at0 c.t (g : Int)) (n := c.s.length) (k := j) (show j < (twV c f g).length by omega)
            have hu2 : 0 ≤ at0 (twU c f g) (i : Int) ∧ at0 (twU c f g) (i : Int) < c.s.length ∧ at0 c.s (at0 (twU c f g) (i : Int)) = at0 c.s (g : Int) ∧ at0 c.t (at0 (twU c f g) (i : Int)) = at0 c.s (f : Int) := hu
            have hv2 : 0 ≤ at0 (twV c f g) (j : Int) ∧ at0 (twV c f g) (j : Int) < c.s.length ∧ at0 c.s (at0 (twV c f g) (j : Int)) = at0 c.t (f : Int) ∧ at0 c.t (at0 (twV c f g) (j : Int)) = at0 c.t (g : Int) := hv
            have u0 := hu2.1; have u1 := hu2.2.1; have v0 := hv2.1; have v1 := hv2.2.1
            have hp := arrP hS (f := at0 (twU c f g) (i : Int)) (by omega) (by omega)
            have p1 := hp.fs; have p2 := hp.ft; have p3 := hp.row; have p4 := hp.fm
            have hq := th_ends hS (f := at0 (twU c f g) (i : Int)) (g := (f : Int)) u0 u1 (by omega) (by omega) hu2.2.2.2
            have q0 := hq.1.1; have q1 := hq.1.2
            have hr := arrP hS (f := c.th (at0 (twU c f g) (i : Int)) (f : Int)) (by omega) (by omega)
            have r1 := hr.fs; have r2 := hr.ft; have r3 := hr.row; have r4 := hr.fm
            refine gc_draw (by kernel_rfl) ?_
            refine gd_v (.free rfl) rfl rfl (qt_loadS (n := 0) rfl rfl Try.underlying29 rfl (by kernel_rfl) rfl) ?_
            refine gd_v (.free rfl) rfl rfl (qt_loadS (n := 0) rfl rfl Try.underlying29 rfl (by kernel_rfl) rfl) ?_
            refine gd_v (.free rfl) rfl rfl (qt_move rfl rfl) ?_
            refine gd_v (.free rfl) rfl rfl (qt_move rfl rfl) ?_
            refine gd_v (.free rfl) rfl rfl (qt_index rfl rfl rfl ulE1 szE1 (fun w M => lenA_own1 (n := 3) rfl M) (by omega) (by omega)) ?_
            refine gd_v (.free rfl) rfl rfl (qt_load1 rfl rfl Try.underlying2 rfl (fun w M => (mem_own1 (n := 3) M rfl).rd) (by omega) (by omega)) ?_
            refine gd_v (.free rfl) rfl rfl (qt_move rfl rfl) ?_
            refine gd_q (.free rfl) rfl rfl (qt_call rfl Try.func81 rfl (by decide) rfl (fun w M => specThen_any w _ _ _ _ (mem_rdC M h0) (by first | assumption | omega) (by first | assumption | omega) (by first | assumption | omega) (by first | assumption | omega))) ?_
            refine gd_v (.free rfl) rfl rfl (qt_move rfl rfl) ?_
            refine gd_v (.free rfl) rfl rfl (qt_move rfl rfl) ?_
            refine gd_v (.free rfl) rfl rfl (qt_index rfl rfl rfl ulE1 szE1 (fun w M => lenA_own1 (n := 4) rfl M) (by omega) (by omega)) ?_
            refine gd_v (.free rfl) rfl rfl (qt_load1 rfl rfl Try.underlying2 rfl (fun w M => (mem_own1 (n := 4) M rfl).rd) (by omega) (by omega)) ?_
            refine gd_q (.free rfl) rfl rfl (qt_call rfl Try.func81 rfl (by decide) rfl (fun w M => specThen_any w _ _ _ _ (mem_rdC M h0) (by first | assumption | omega) (by first | assumption | omega) (by first | assumption | omega) (by first | assumption | omega))) ?_
            refine gd_v (.free rfl) rfl rfl (qt_move rfl rfl) ?_
            refine gd_v (.free rfl) rfl rfl (qt_eql rfl rfl rfl) ?_
            refine gd_nil ?_
            refine gk_then (hK33 _ _ ?_)
            refine gc_cond rfl (fun hc4 => ?_) (fun hc4 => ?_)
            · try simp only [decide_eq_true_eq, decide_eq_false_iff_not, Bool.not_eq_true', Bool.not_eq_false', Bool.not_eq_eq_eq_not, Bool.not_true, Bool.not_false, ne_eq, Decidable.not_not, Classical.not_not] at hc4
              have b1 := tw1_len hn40 emR (c := c) f
              have b2 := tw2_len hn40 emR f (tw1 emR c f) (c := c) g
              have b3 := tw3_len hn40 emR f g (twU c f g) (tw2 emR c f (tw1 emR c f) g) (c := c) i
              have b4 := tw4_len emR c f g (at0 (twU c f g) (i : Int)) (twV c f g) (tw3 emR c f g (twU c f g) (twV c f g) (tw2 emR c f (tw1 emR c f) g) i) j
              try simp only [List.nil_append, List.cons_append, List.append_assoc, List.set_cons_succ, List.set_cons_zero]
              refine ga_start _ (fun w M => mem_erase 2 (M)) ?_
              refine ga_v 0 rfl (by kernel_rfl) (by kernel_rfl) (by kernel_rfl) (.free rfl) rfl rfl (qt_move rfl rfl) (fun _ _ _ h => h) ?_
              refine ga_v 1 rfl (by kernel_rfl) (by kernel_rfl) (by kernel_rfl) (.free rfl) rfl rfl (qt_move rfl rfl) (fun _ _ _ h => h) ?_
              refine ga_v 2 rfl (by kernel_rfl) (by kernel_rfl) (by kernel_rfl) (.free rfl) rfl rfl (qt_move rfl rfl) (fun _ _ _ h => h) ?_
              refine ga_v 3 rfl (by kernel_rfl) (by kernel_rfl) (by kernel_rfl) (.free rfl) rfl rfl (qt_move rfl rfl) (fun _ _ _ h => h) ?_
              refine ga_v 4 rfl (by kernel_rfl) (by kernel_rfl) (by kernel_rfl) (.free rfl) rfl rfl (qt_move rfl rfl) (fun _ _ _ h => h) ?_
              refine ga_v 5 rfl (by kernel_rfl) (by kernel_rfl) (by kernel_rfl) (.free rfl) rfl rfl (qt_index rfl rfl rfl ulE1 szE1 (fun w M => lenA_own1 (n := 2) rfl M) (by omega) (by omega)) (fun _ _ _ h => h) ?_
              refine ga_v 6 rfl (by kernel_rfl) (by kernel_rfl) (by kernel_rfl) (.free rfl) rfl rfl (qt_load1 rfl rfl Try.underlying2 rfl (fun w M => (mem_own1 (n := 2) M rfl).rd) (by omega) (by omega)) (fun _ _ _ h => h) ?_
              refine ga_v 7 rfl (by kernel_rfl) (by kernel_rfl) (by kernel_rfl) (.free rfl) rfl rfl (qt_move rfl rfl) (fun _ _ _ h => h) ?_
              refine ga_v 8 rfl (by kernel_rfl) (by kernel_rfl) (by kernel_rfl) (.free rfl) rfl rfl (qt_move rfl rfl) (fun _ _ _ h => h) ?_
              refine ga_v 9 rfl (by kernel_rfl) (by kernel_rfl) (by kernel_rfl) (.free rfl) rfl rfl (qt_index rfl rfl rfl ulE1 szE1 (fun w M => lenA_own1 (n := 3) rfl M) (by omega) (by omega)) (fun _ _ _ h => h) ?_
              refine ga_v 10 rfl (by kernel_rfl) (by kernel_rfl) (by kernel_rfl) (.free rfl) rfl rfl (qt_load1 rfl rfl Try.underlying2 rfl (fun w M => (mem_own1 (n := 3) M rfl).rd) (by omega) (by omega)) (fun _ _ _ h => h) ?_
              refine ga_op 11 (by kernel_rfl) rfl (.free rfl) fun K35 hK35 => ?_
              refine go_slice4 rfl rfl rfl rfl rfl rfl rfl Try.underlying22 ?_
              intro B34
              refine hK35 _ _ (fun w M => (mem_erase 2 (mem_take 5 M) :)) ?_
              refine ga_op 12 (by kernel_rfl) rfl (.free rfl) fun K37 hK37 => ?_
              refine go_sliceR1 (m := 5) rfl rfl rfl rfl Try.underlying23 rfl ?_
              intro B36
              refine hK37 _ _ (fun w M => (mem_erase 2 (mem_take 5 M) :)) ?_
              refine ga_op 13 (by kernel_rfl) rfl (.free rfl) fun K39 hK39 => ?_
              refine go_appendRow (n := 2) (m := 5) (m' := 4) rfl rfl rfl Try.underlying23 rfl rfl rfl rfl rfl (by omega) ?_
              intro va38 vc38
              refine hK39 _ _ (fun w M => (mem_erase 2 (mem_take 5 M) :)) ?_
              refine ga_v 14 rfl (by kernel_rfl) (by kernel_rfl) (by kernel_rfl) (.free rfl) rfl rfl (qt_assign rfl rfl) (fun _ _ _ h => h) ?_
              refine ga_done (by kernel_rfl) ?_
              refine gk_block ?_
              refine gk_then (hK32 _ _ ?_)
              refine gc_region ?_
              refine g_v (.free rfl) rfl rfl (qt_move rfl rfl) ?_
              refine g_v (.free rfl) rfl rfl (qt_add rfl rfl rfl (by omega)) ?_
              refine g_v (.free rfl) rfl rfl (qt_assign rfl rfl) ?_
              refine g_nil ?_
              have ht : tw4 emR c f g (at0 (twU c f g) (i : Int)) (twV c f g) (tw3 emR c f g (twU c f g) (twV c f g) (tw2 emR c f (tw1 emR c f) g) i) j ++ [[(f : Int), (g : Int), at0 (twU c f g) (i : Int), at0 (twV c f g) (j : Int)]] = tw4 emR c f g (at0 (twU c f g) (i : Int)) (twV c f g) (tw3 emR c f g (twU c f g) (twV c f g) (tw2 emR c f (tw1 emR c f) g) i) (j + 1) := tw4_t hc4
              simp only [ht]
              refine gk_then (gk_take 5 ?_)
              refine gk_sub ?hs_40 (hKL29 (j + 1, _, _, _) ?hi_40 ?hm_40)
              case hs_40 => exact (sub_cons rfl (sub_cons rfl (sub_cons rfl (sub_cons rfl (sub_cons rfl (sub_cons rfl (sub_cons rfl (sub_cons rfl (sub_cons rfl (sub_cons rfl (sub_cons rfl (sub_cons rfl (sub_cons rfl (sub_cons rfl (sub_cons rfl sub_nil)))))))))))))))
              case hi_40 => omega
              case hm_40 => omega
            · try simp only [decide_eq_true_eq, decide_eq_false_iff_not, Bool.not_eq_true', Bool.not_eq_false', Bool.not_eq_eq_eq_not, Bool.not_true, Bool.not_false, ne_eq, Decidable.not_not, Classical.not_not] at hc4
              refine gc_skip ?_
              refine gk_block ?_
              refine gk_then (hK32 _ _ ?_)
              refine gc_region ?_
              refine g_v (.free rfl) rfl rfl (qt_move rfl rfl) ?_
              refine g_v (.free rfl) rfl rfl (qt_add rfl rfl rfl (by omega)) ?_
              refine g_v (.free rfl) rfl rfl (qt_assign rfl rfl) ?_
              refine g_nil ?_
              rw [tw4_f hc4]
              refine gk_then (gk_take 5 ?_)
              refine gk_sub ?hs_41 (hKL29 (j + 1, _, _, _) ?hi_41 ?hm_41)
              case hs_41 => exact (sub_cons rfl (sub_cons rfl (sub_cons rfl (sub_cons rfl (sub_cons rfl (sub_cons rfl (sub_cons rfl (sub_cons rfl (sub_cons rfl (sub_cons rfl (sub_cons rfl (sub_cons rfl (sub_cons rfl (sub_cons rfl (sub_cons rfl sub_nil)))))))))))))))
              case hi_41 => omega
              case hm_41 => omega
          · try simp only [decide_eq_true_eq, decide_eq_false_iff_not, Bool.not_eq_true', Bool.not_eq_false', Bool.not_eq_eq_eq_not, Bool.not_true, Bool.not_false, ne_eq, Decidable.not_not, Classical.not_not] at hc3
            refine gc_exit ?_
            refine gk_then_exit ?_
            refine gk_then_exit ?_
            refine gk_block_hit ?_
            refine gk_block ?_
            refine gk_then (hK27 _ _ ?_)
            refine gc_region ?_
            refine g_v (.free rfl) rfl rfl (qt_move rfl rfl) ?_
            refine g_v (.free rfl) rfl rfl (qt_add rfl rfl rfl (by omega)) ?_
            refine g_v (.free rfl) rfl rfl (qt_assign rfl rfl) ?_
            refine g_nil ?_
            obtain rfl : j = (twV c f g).length := by omega
            refine gk_then (gk_take 5 ?_)
            refine gk_sub ?hs_42 (hKL24 (i + 1, _, _, _) ?hi_42 ?hm_42)
            case hs_42 => exact (sub_cons rfl (sub_cons rfl (sub_cons rfl (sub_cons rfl (sub_cons rfl (sub_cons rfl (sub_cons rfl (sub_cons rfl (sub_cons rfl (sub_cons rfl (sub_cons rfl (sub_cons rfl (sub_cons rfl sub_nil)))))))))))))
            case hi_42 => omega
            case hm_42 => omega
        · try simp only [decide_eq_true_eq, decide_eq_false_iff_not, Bool.not_eq_true', Bool.not_eq_false', Bool.not_eq_eq_eq_not, Bool.not_true, Bool.not_false, ne_eq, Decidable.not_not, Classical.not_not] at hc2
          refine gc_exit ?_
          refine gk_then_exit ?_
          refine gk_then_exit ?_
          refine gk_block_hit ?_
          refine gk_block ?_
          refine gk_then (hK20 _ _ ?_)
          refine gc_region ?_
          refine g_v (.free rfl) rfl rfl (qt_move rfl rfl) ?_
          refine g_v (.free rfl) rfl rfl (qt_add rfl rfl rfl (by omega)) ?_
          refine g_v (.free rfl) rfl rfl (qt_assign rfl rfl) ?_
          refine g_nil ?_
          obtain rfl : i = (twU c f g).length := by omega
          refine gk_then (gk_take 3 ?_)
          refine gk_sub ?hs_43 (hKL17 (g + 1, _, _, _) ?hi_43 ?hm_43)
          case hs_43 => exact (sub_cons rfl (sub_cons rfl (sub_cons rfl (sub_cons rfl (sub_cons rfl (sub_cons rfl (sub_cons rfl (sub_cons rfl (sub_cons rfl sub_nil)))))))))
          case hi_43 => omega
          case hm_43 => omega
      simp only [updL, List.foldl_cons, List.foldl_nil, List.set_cons_succ, List.set_cons_zero, List.cons_append, List.nil_append] at HJ22
      refine ga_start _ (fun w M => M) ?_
      refine ga_v 0 rfl (by kernel_rfl) (by kernel_rfl) (by kernel_rfl) (.free rfl) rfl rfl (qt_loadS (n := 0) rfl rfl Try.underlying29 rfl (by kernel_rfl) rfl) (fun _ _ _ h => h) ?_
      refine ga_v 1 rfl (by kernel_rfl) (by kernel_rfl) (by kernel_rfl) (.free rfl) rfl rfl (qt_field (z := 0) (off := 1) rfl rfl Try.underlying29 rfl (by kernel_rfl) rfl) (fun _ _ _ h => h) ?_
      refine ga_v 2 rfl (by kernel_rfl) (by kernel_rfl) (by kernel_rfl) (.free rfl) rfl rfl (qt_loadB (n := 0) rfl rfl Try.underlying22 rfl rfl rfl) (fun _ _ _ h => h) ?_
      refine ga_v 3 rfl (by kernel_rfl) (by kernel_rfl) (by kernel_rfl) (.free rfl) rfl rfl (qt_move rfl rfl) (fun _ _ _ h => h) ?_
      refine ga_v 4 rfl (by kernel_rfl) (by kernel_rfl) (by kernel_rfl) (.free rfl) rfl rfl (qt_index rfl rfl rfl ulE1 szE1 (fun w M => lenA_rd h1) (by omega) (by omega)) (fun _ _ _ h => h) ?_
      refine ga_v 5 rfl (by kernel_rfl) (by kernel_rfl) (by kernel_rfl) (.free rfl) rfl rfl (qt_load1 rfl rfl Try.underlying2 rfl (fun w M => mem_rd M h1) (by omega) (by omega)) (fun _ _ _ h => h) ?_
      refine ga_v 6 rfl (by kernel_rfl) (by kernel_rfl) (by kernel_rfl) (.free rfl) rfl rfl (qt_field (z := 0) (off := 1) rfl rfl Try.underlying29 rfl (by kernel_rfl) rfl) (fun _ _ _ h => h) ?_
      refine ga_v 7 rfl (by kernel_rfl) (by kernel_rfl) (by kernel_rfl) (.free rfl) rfl rfl (qt_loadB (n := 0) rfl rfl Try.underlying22 rfl rfl rfl) (fun _ _ _ h => h) ?_
      refine ga_v 8 rfl (by kernel_rfl) (by kernel_rfl) (by kernel_rfl) (.free rfl) rfl rfl (qt_move rfl rfl) (fun _ _ _ h => h) ?_
      refine ga_v 9 rfl (by kernel_rfl) (by kernel_rfl) (by kernel_rfl) (.free rfl) rfl rfl (qt_index rfl rfl rfl ulE1 szE1 (fun w M => lenA_rd h1) (by omega) (by omega)) (fun _ _ _ h => h) ?_
      refine ga_v 10 rfl (by kernel_rfl) (by kernel_rfl) (by kernel_rfl) (.free rfl) rfl rfl (qt_load1 rfl rfl Try.underlying2 rfl (fun w M => mem_rd M h1) (by omega) (by omega)) (fun _ _ _ h => h) ?_
      refine ga_v 12 rfl (by kernel_rfl) (by kernel_rfl) (by kernel_rfl) (.free rfl) rfl rfl (qt_loadS (n := 0) rfl rfl Try.underlying29 rfl (by kernel_rfl) rfl) (fun _ _ _ h => h) ?_
      refine ga_v 13 rfl (by kernel_rfl) (by kernel_rfl) (by kernel_rfl) (.free rfl) rfl rfl (qt_field (z := 0) (off := 2) rfl rfl Try.underlying29 rfl (by kernel_rfl) rfl) (fun _ _ _ h => h) ?_
      refine ga_v 14 rfl (by kernel_rfl) (by kernel_rfl) (by kernel_rfl) (.free rfl) rfl rfl (qt_loadB (n := 0) rfl rfl Try.underlying22 rfl rfl rfl) (fun _ _ _ h => h) ?_
      refine ga_v 15 rfl (by kernel_rfl) (by kernel_rfl) (by kernel_rfl) (.free rfl) rfl rfl (qt_move rfl rfl) (fun _ _ _ h => h) ?_
      refine ga_v 16 rfl (by kernel_rfl) (by kernel_rfl) (by kernel_rfl) (.free rfl) rfl rfl (qt_index rfl rfl rfl ulE1 szE1 (fun w M => lenA_rd h2) (by omega) (by omega)) (fun _ _ _ h => h) ?_
      refine ga_v 17 rfl (by kernel_rfl) (by kernel_rfl) (by kernel_rfl) (.free rfl) rfl rfl (qt_load1 rfl rfl Try.underlying2 rfl (fun w M => mem_rd M h2) (by omega) (by omega)) (fun _ _ _ h => h) ?_
      refine ga_v 18 rfl (by kernel_rfl) (by kernel_rfl) (by kernel_rfl) (.free rfl) rfl rfl (qt_field (z := 0) (off := 2) rfl rfl Try.underlying29 rfl (by kernel_rfl) rfl) (fun _ _ _ h => h) ?_
      refine ga_v 19 rfl (by kernel_rfl) (by kernel_rfl) (by kernel_rfl) (.free rfl) rfl rfl (qt_loadB (n := 0) rfl rfl Try.underlying22 rfl rfl rfl) (fun _ _ _ h => h) ?_
      refine ga_v 20 rfl (by kernel_rfl) (by kernel_rfl) (by kernel_rfl) (.free rfl) rfl rfl (qt_move rfl rfl) (fun _ _ _ h => h) ?_
      refine ga_v 21 rfl (by kernel_rfl) (by kernel_rfl) (by kernel_rfl) (.free rfl) rfl rfl (qt_index rfl rfl rfl ulE1 szE1 (fun w M => lenA_rd h2) (by omega) (by omega)) (fun _ _ _ h => h) ?_
      refine ga_v 22 rfl (by kernel_rfl) (by kernel_rfl) (by kernel_rfl) (.free rfl) rfl rfl (qt_load1 rfl rfl Try.underlying2 rfl (fun w M => mem_rd M h2) (by omega) (by omega)) (fun _ _ _ h => h) ?_
      refine ga_op 11 (by kernel_rfl) rfl (.free rfl) fun K45 hK45 => ?_
      refine go_callL rfl rfl rfl Try.func80 rfl (by decide) rfl (fun w M => specHom_any w _ _ _ _ (mem_rdC M h0) (by first | assumption | omega)) ?_
      intro va44 vc44
      refine hK45 _ _ (fun w M => (mem_take 3 M :)) ?_
      refine ga_op 23 (by kernel_rfl) rfl (.free rfl) fun K47 hK47 => ?_
      refine go_callL rfl rfl rfl Try.func80 rfl (by decide) rfl (fun w M => specHom_any w _ _ _ _ (mem_rdC M h0) (by first | assumption | omega)) ?_
      intro va46 vc46
      refine hK47 _ _ (fun w M => (mem_take 3 M :)) ?_
      refine ga_v 24 rfl (by kernel_rfl) (by kernel_rfl) (by kernel_rfl) (.free rfl) rfl rfl (qt_assign rfl rfl) (fun _ _ _ h => h) ?_
      refine ga_v 25 rfl (by kernel_rfl) (by kernel_rfl) (by kernel_rfl) (.free rfl) rfl rfl (qt_assign rfl rfl) (fun _ _ _ h => h) ?_
      refine ga_done (by kernel_rfl) ?_
      refine gk_pickL [0, 0, 0, 0, 0] ?_
      refine gk_sub ?hs_48 (HJ22 (_, _, _, _))
      case hs_48 => exact (sub_cons rfl (sub_cons rfl (sub_cons rfl (sub_cons rfl (sub_cons rfl (sub_cons rfl (sub_cons rfl (sub_cons rfl (sub_cons rfl (sub_cons rfl (sub_cons rfl (sub_cons rfl sub_nil))))))))))))
    · try simp only [decide_eq_true_eq, decide_eq_false_iff_not, Bool.not_eq_true', Bool.not_eq_false', Bool.not_eq_eq_eq_not, Bool.not_true, Bool.not_false, ne_eq, Decidable.not_not, Classical.not_not] at hc1
      refine gc_exit ?_
      refine gk_then_exit ?_
      refine gk_then_exit ?_
      refine gk_block_hit ?_
      refine gk_block ?_
      refine gk_then (hK15 _ _ ?_)
      refine gc_region ?_
      refine g_v (.free rfl) rfl rfl (qt_move rfl rfl) ?_
      refine g_v (.free rfl) rfl rfl (qt_add rfl rfl rfl (by omega)) ?_
      refine g_v (.free rfl) rfl rfl (qt_assign rfl rfl) ?_
      refine g_nil ?_
      obtain rfl : g = c.s.length := by omega
      refine gk_then (gk_take 3 ?_)
      refine gk_sub ?hs_49 (hKL12 (f + 1, _, _, _) ?hi_49 ?hm_49)
      case hs_49 => exact (sub_cons rfl (sub_cons rfl (sub_cons rfl (sub_cons rfl (sub_cons rfl (sub_cons rfl (sub_cons rfl sub_nil)))))))
      case hi_49 => omega
      case hm_49 => omega
  · try simp only [decide_eq_true_eq, decide_eq_false_iff_not, Bool.not_eq_true', Bool.not_eq_false', Bool.not_eq_eq_eq_not, Bool.not_true, Bool.not_false, ne_eq, Decidable.not_not, Classical.not_not] at hc0
    refine gc_exit ?_
    refine gk_then_exit ?_
    refine gk_then_exit ?_
    refine gk_block_hit ?_
    refine gk_then (hK10 _ _ ?_)
    refine gc_seq fun K50 hK50 => ?_
    obtain rfl : f = c.s.length := by omega
    have hTW : tw1 emR c c.s.length = twR c := rfl
    simp only [hTW]
    refine gc_region ?_
    refine g_v (.free rfl) rfl rfl (qt_move rfl rfl) ?_
    refine g_op (.free rfl) fun K52 hK52 => ?_
    refine go_slice0 rfl rfl rfl Try.underlying22 ?_
    intro B51
    refine hK52 _ _ ?_
    refine g_op (.free rfl) fun K54 hK54 => ?_
    refine go_slice0 rfl rfl rfl Try.underlying22 ?_
    intro B53
    refine hK54 _ _ ?_
    refine g_v (.free rfl) rfl rfl (qt_move rfl rfl) ?_
    refine g_op (.free rfl) fun K56 hK56 => ?_
    refine go_make1 rfl rfl rfl Try.underlying22 rfl rfl (by omega) ?_
    intro B55
    refine hK56 _ _ ?_
    refine g_op (.free rfl) fun K58 hK58 => ?_
    refine go_sliceR0 rfl rfl rfl Try.underlying23 ?_
    intro B57
    refine hK58 _ _ ?_
    refine g_v (.free rfl) rfl rfl (qt_build rfl rfl bt_Category) ?_
    refine g_op (.free rfl) fun K60 hK60 => ?_
    refine go_alloc (z := (.agg #[.int .i64 0, .slice none 0 0, .slice none 0 0, .slice none 0 0, .slice none 0 0])) (cs := [.int .i64 0, .slice none 0 0, .slice none 0 0, .slice none 0 0, .slice none 0 0]) rfl rfl rfl (fun w => by kernel_rfl) rfl ?_
    intro B59
    refine hK60 _ _ ?_
    refine g_op (.free rfl) fun K61 hK61 => ?_
    refine go_storeS (n := 7) rfl rfl rfl rfl (by kernel_rfl) rfl rfl rfl ?_
    refine hK61 _ _ ?_
    refine g_nil ?_
    refine gk_then (hK50 _ _ ?_)
    refine gc_seq fun K62 hK62 => ?_
    refine gc_seq fun K63 hK63 => ?_
    refine gc_region ?_
    refine g_v (.free rfl) rfl rfl (qt_assign rfl rfl) ?_
    refine g_nil ?_
    refine gk_then (hK63 _ _ ?_)
    refine gc_block ?_
    try simp only [List.nil_append, List.cons_append, List.append_assoc, List.set_cons_succ, List.set_cons_zero]
    refine gc_loop ([(0, _), (1, _), (2, _), (3, _), (4, _), (5, _), (6, _), (12, _), (29, _)] : Env) (fun s : Nat × (Option Addr) × Nat × (Option Addr) × Nat => (fun (m : Nat) (a1 : Option Addr) (q1 : Nat) (a2 : Option Addr) (q2 : Nat) => ([(13, .int .i64 (m : Int))] : Env)) s.1 s.2.1 s.2.2.1 s.2.2.2.1 s.2.2.2.2) (fun s : Nat × (Option Addr) × Nat × (Option Addr) × Nat => (fun (m : Nat) (a1 : Option Addr) (q1 : Nat) (a2 : Option Addr) (q2 : Nat) => ([(3, own1I (.slice a1 (tabTo (fun j => at0 (row2 (twR c) (j : Int)) 0) m).length q1) (tabTo (fun j => at0 (row2 (twR c) (j : Int)) 0) m)), (4, own1I (.slice a2 (tabTo (fun j => at0 (row2 (twR c) (j : Int)) 1) m).length q2) (tabTo (fun j => at0 (row2 (twR c) (j : Int)) 1) m)), (5, own1I (.slice (some ⟨B55, 0, none⟩) c.s.length c.s.length) (twI c m)), (7, bxI B59 29 [.int .i64 c.s.length, .slice a1 (tabTo (fun j => at0 (row2 (twR c) (j : Int)) 0) m).length q1, .slice a2 (tabTo (fun j => at0 (row2 (twR c) (j : Int)) 1) m).length q2, .slice (some ⟨B55, 0, none⟩) c.s.length c.s.length, .slice (some ⟨B57, 0, none⟩) 0 0])] : List (Nat × Itm))) s.1 s.2.1 s.2.2.1 s.2.2.2.1 s.2.2.2.2) (fun s : Nat × (Option Addr) × Nat × (Option Addr) × Nat => (fun (m : Nat) (a1 : Option Addr) (q1 : Nat) (a2 : Option Addr) (q2 : Nat) => m ≤ (twR c).length) s.1 s.2.1 s.2.2.1 s.2.2.2.1 s.2.2.2.2) (fun s : Nat × (Option Addr) × Nat × (Option Addr) × Nat => (fun (m : Nat) (a1 : Option Addr) (q1 : Nat) (a2 : Option Addr) (q2 : Nat) => (twR c).length - m) s.1 s.2.1 s.2.2.1 s.2.2.2.1 s.2.2.2.2) (0, _, _, _, _) (sub_cons rfl (sub_cons rfl (sub_cons rfl (sub_cons rfl (sub_cons rfl (sub_cons rfl (sub_cons rfl (sub_cons rfl (sub_cons rfl (sub_cons rfl sub_nil)))))))))) rfl (Nat.zero_le _) ?_
    rintro ⟨m, a1, q1, a2, q2⟩ hinv KL64 hKL64
    simp only [updL, List.foldl_cons, List.foldl_nil, List.set_cons_succ, List.set_cons_zero, List.cons_append, List.nil_append] at hinv hKL64 ⊢
    have hm := hinv
    have ht1 := tabTo_len (fun j => at0 (row2 (twR c) (j : Int)) 0) m
    have ht2 := tabTo_len (fun j => at0 (row2 (twR c) (j : Int)) 1) m
    refine gc_seq fun K65 hK65 => ?_
    refine gc_seq fun K66 hK66 => ?_
    refine gc_region ?_
    refine g_v (.free rfl) rfl rfl (qt_move rfl rfl) ?_
    refine g_v (.free rfl) rfl rfl (qt_move rfl rfl) ?_
    refine g_v (.free rfl) rfl rfl (qt_len rfl rfl ulE2 (fun w M => lenV_U (n := 2) rfl M)) ?_
    refine g_v (.free rfl) rfl rfl (qt_lss rfl rfl rfl) ?_
    refine g_nil ?_
    refine gk_then (hK66 _ _ ?_)
    refine gc_cond rfl (fun hc5 => ?_) (fun hc5 => ?_)
    · try simp only [decide_eq_true_eq, decide_eq_false_iff_not, Bool.not_eq_true', Bool.not_eq_false', Bool.not_eq_eq_eq_not, Bool.not_true, Bool.not_false, ne_eq, Decidable.not_not, Classical.not_not] at hc5
      refine gc_skip ?_
      refine gk_then (hK65 _ _ ?_)
      refine gc_seq fun K67 hK67 => ?_
      refine gc_block ?_
      refine gc_seq fun K68 hK68 => ?_
      refine gc_region ?_
      refine g_v (.free rfl) rfl rfl (qt_move rfl rfl) ?_
      refine g_v (.free rfl) rfl rfl (qt_move rfl rfl) ?_
      refine g_v (.free rfl) rfl rfl (qt_index rfl rfl rfl ulE2 szE2 (fun w M => lenA_U (n := 2) rfl M) (by omega) (by omega)) ?_
      refine g_v (.free rfl) rfl rfl (qt_loadU (n := 2) rfl rfl Try.underlying22 rfl rfl (by omega) (by omega)) ?_
      refine g_v (.free rfl) rfl rfl (qt_assign rfl rfl) ?_
      refine g_nil ?_
      refine gk_then (hK68 _ _ ?_)
      refine gc_seq fun K69 hK69 => ?_
      have Pm := twR_P (c := c) (i := m) (by omega)
      have ml := Pm.len; have m0 := Pm.r0.1; have m1 := Pm.r0.2; have m2 := Pm.r1.1; have m3 := Pm.r1.2; have m4 := Pm.r2.1; have m5 := Pm.r2.2; have m6 := Pm.r3.1; have m7 := Pm.r3.2
      try simp only [List.nil_append, List.cons_append, List.append_assoc, List.set_cons_succ, List.set_cons_zero]
      refine gc_cut ([(0, _), (1, _), (2, _), (3, _), (4, _), (5, _), (6, _), (12, _), (13, _), (14, _), (29, _), (112, _)] : Env) (fun s : (Option Addr) × Nat × Nat => (fun (b1 : Option Addr) (p1 : Nat) (D1 : Nat) => ([] : Env)) s.1 s.2.1 s.2.2) (fun s : (Option Addr) × Nat × Nat => (fun (b1 : Option Addr) (p1 : Nat) (D1 : Nat) => ([(3, own1I (.slice b1 (tabTo (fun j => at0 (row2 (twR c) (j : Int)) 0) m ++ [at0 (row2 (twR c) (m : Int)) 0]).length p1) (tabTo (fun j => at0 (row2 (twR c) (j : Int)) 0) m ++ [at0 (row2 (twR c) (m : Int)) 0])), (7, bxI B59 29 [.int .i64 c.s.length, .slice b1 (tabTo (fun j => at0 (row2 (twR c) (j : Int)) 0) m ++ [at0 (row2 (twR c) (m : Int)) 0]).length p1, .slice a2 (tabTo (fun j => at0 (row2 (twR c) (j : Int)) 1) m).length q2, .slice (some ⟨B55, 0, none⟩) c.s.length c.s.length, .slice (some ⟨B57, 0, none⟩) 0 0])] : List (Nat × Itm))) s.1 s.2.1 s.2.2) (fun s : (Option Addr) × Nat × Nat => (fun (b1 : Option Addr) (p1 : Nat) (D1 : Nat) => ([own1I (.slice (some ⟨D1, 0, none⟩) 1 1) [at0 (row2 (twR c) (m : Int)) 0]] : List Itm)) s.1 s.2.1 s.2.2) (sub_cons rfl (sub_cons rfl (sub_cons rfl (sub_cons rfl (sub_cons rfl (sub_cons rfl (sub_cons rfl (sub_cons rfl (sub_cons rfl (sub_cons rfl (sub_cons rfl (sub_cons rfl sub_nil)))))))))))) ?_ (fun HJ70 => ?_)
      · rintro ⟨b1, p1, D1⟩
        simp only [updL, List.foldl_cons, List.foldl_nil, List.set_cons_succ, List.set_cons_zero, List.cons_append, List.nil_append]
        refine gk_then (hK69 _ _ ?_)
        refine gc_seq fun K71 hK71 => ?_
        try simp only [List.nil_append, List.cons_append, List.append_assoc, List.set_cons_succ, List.set_cons_zero]
        refine gc_cut ([(0, _), (1, _), (2, _), (3, _), (4, _), (5, _), (6, _), (12, _), (13, _), (14, _), (29, _), (112, _)] : Env) (fun s : (Option Addr) × Nat × Nat => (fun (b2 : Option Addr) (p2 : Nat) (D2 : Nat) => ([] : Env)) s.1 s.2.1 s.2.2) (fun s : (Option Addr) × Nat × Nat => (fun (b2 : Option Addr) (p2 : Nat) (D2 : Nat) => ([(4, own1I (.slice b2 (tabTo (fun j => at0 (row2 (twR c) (j : Int)) 1) m ++ [at0 (row2 (twR c) (m : Int)) 1]).length p2) (tabTo (fun j => at0 (row2 (twR c) (j : Int)) 1) m ++ [at0 (row2 (twR c) (m : Int)) 1])), (7, bxI B59 29 [.int .i64 c.s.length, .slice b1 (tabTo (fun j => at0 (row2 (twR c) (j : Int)) 0) m ++ [at0 (row2 (twR c) (m : Int)) 0]).length p1, .slice b2 (tabTo (fun j => at0 (row2 (twR c) (j : Int)) 1) m ++ [at0 (row2 (twR c) (m : Int)) 1]).length p2, .slice (some ⟨B55, 0, none⟩) c.s.length c.s.length, .slice (some ⟨B57, 0, none⟩) 0 0])] : List (Nat × Itm))) s.1 s.2.1 s.2.2) (fun s : (Option Addr) × Nat × Nat => (fun (b2 : Option Addr) (p2 : Nat) (D2 : Nat) => ([own1I (.slice (some ⟨D2, 0, none⟩) 1 1) [at0 (row2 (twR c) (m : Int)) 1]] : List Itm)) s.1 s.2.1 s.2.2) (sub_cons rfl (sub_cons rfl (sub_cons rfl (sub_cons rfl (sub_cons rfl (sub_cons rfl (sub_cons rfl (sub_cons rfl (sub_cons rfl (sub_cons rfl (sub_cons rfl (sub_cons rfl sub_nil)))))))))))) ?_ (fun HJ72 => ?_)
        · rintro ⟨b2, p2, D2⟩
          simp only [updL, List.foldl_cons, List.foldl_nil, List.set_cons_succ, List.set_cons_zero, List.cons_append, List.nil_append]
          refine gk_then (hK71 _ _ ?_)
          refine gc_seq fun K73 hK73 => ?_
          have hil := twI_len c m
          refine gc_draw (by kernel_rfl) ?_
          refine gd_v (.free rfl) rfl rfl (qt_move rfl rfl) ?_
          refine gd_v (.free rfl) rfl rfl (qt_index rfl rfl rfl ulE1 szE1 (fun w M => lenA_row (n := 2) rfl (by omega) (by omega) M) (by omega) (by omega)) ?_
          refine gd_v (.free rfl) rfl rfl (qt_load1 rfl rfl Try.underlying2 rfl (fun w M => mem_rowU (n := 2) M rfl (by omega) (by omega)) (by omega) (by omega)) ?_
          refine gd_v (.free rfl) rfl rfl (qt_move rfl rfl) ?_
          refine gd_v (.free rfl) rfl rfl (qt_index rfl rfl rfl ulE1 szE1 (fun w M => lenA_row (n := 2) rfl (by omega) (by omega) M) (by omega) (by omega)) ?_
          refine gd_v (.free rfl) rfl rfl (qt_load1 rfl rfl Try.underlying2 rfl (fun w M => mem_rowU (n := 2) M rfl (by omega) (by omega)) (by omega) (by omega)) ?_
          refine gd_v (.free rfl) rfl rfl (qt_eql rfl rfl rfl) ?_
          refine gd_splitv (.free rfl) rfl rfl (qt_move rfl rfl) (fun hs25_7 => ?_) (fun hs25_7 => ?_)
          · try simp only [decide_eq_true_eq, decide_eq_false_iff_not, Bool.not_eq_true', Bool.not_eq_false', Bool.not_eq_eq_eq_not, Bool.not_true, Bool.not_false, ne_eq, Decidable.not_not, Classical.not_not] at hs25_7
            refine gd_v (.held _ _ _ rfl rfl rfl) rfl rfl (qt_loadS (n := 0) rfl rfl Try.underlying29 rfl (by kernel_rfl) rfl) ?_
            refine gd_v (.held _ _ _ rfl rfl rfl) rfl rfl (qt_move rfl rfl) ?_
            refine gd_v (.held _ _ _ rfl rfl rfl) rfl rfl (qt_index rfl rfl rfl ulE1 szE1 (fun w M => lenA_row (n := 2) rfl (by omega) (by omega) M) (by omega) (by omega)) ?_
            refine gd_v (.held _ _ _ rfl rfl rfl) rfl rfl (qt_load1 rfl rfl Try.underlying2 rfl (fun w M => mem_rowU (n := 2) M rfl (by omega) (by omega)) (by omega) (by omega)) ?_
            refine gd_q (.held _ _ _ rfl rfl rfl) rfl rfl (qt_call rfl Try.func82 rfl (by decide) rfl (fun w M => specUnit_any w _ _ _ (mem_rdC M h0) (by first | assumption | omega) (by first | assumption | omega) (by first | assumption | omega))) ?_
            refine gd_v (.free rfl) rfl rfl (qt_pick_t rfl rfl rfl) ?_
            refine gd_splitv (.free rfl) rfl rfl (qt_move rfl rfl) (fun hs25_14 => ?_) (fun hs25_14 => ?_)
            · try simp only [decide_eq_true_eq, decide_eq_false_iff_not, Bool.not_eq_true', Bool.not_eq_false', Bool.not_eq_eq_eq_not, Bool.not_true, Bool.not_false, ne_eq, Decidable.not_not, Classical.not_not] at hs25_14
              refine gd_v (.held _ _ _ rfl rfl rfl) rfl rfl (qt_loadS (n := 0) rfl rfl Try.underlying29 rfl (by kernel_rfl) rfl) ?_
              refine gd_v (.held _ _ _ rfl rfl rfl) rfl rfl (qt_move rfl rfl) ?_
              refine gd_v (.held _ _ _ rfl rfl rfl) rfl rfl (qt_index rfl rfl rfl ulE1 szE1 (fun w M => lenA_row (n := 2) rfl (by omega) (by omega) M) (by omega) (by omega)) ?_
              refine gd_v (.held _ _ _ rfl rfl rfl) rfl rfl (qt_load1 rfl rfl Try.underlying2 rfl (fun w M => mem_rowU (n := 2) M rfl (by omega) (by omega)) (by omega) (by omega)) ?_
              refine gd_q (.held _ _ _ rfl rfl rfl) rfl rfl (qt_call rfl Try.func82 rfl (by decide) rfl (fun w M => specUnit_any w _ _ _ (mem_rdC M h0) (by first | assumption | omega) (by first | assumption | omega) (by first | assumption | omega))) ?_
              refine gd_v (.free rfl) rfl rfl (qt_pick_t rfl rfl rfl) ?_
              refine gd_nil ?_
              refine gk_then (hK73 _ _ ?_)
              refine gc_cond rfl (fun hc6 => ?_) (fun hc6 => ?_)
              · try simp only [decide_eq_true_eq, decide_eq_false_iff_not, Bool.not_eq_true', Bool.not_eq_false', Bool.not_eq_eq_eq_not, Bool.not_true, Bool.not_false, ne_eq, Decidable.not_not, Classical.not_not] at hc6
                try simp only [List.nil_append, List.cons_append, List.append_assoc, List.set_cons_succ, List.set_cons_zero]
                refine ga_start _ (fun w M => mem_erase 5 (M)) ?_
                refine ga_v 0 rfl (by kernel_rfl) (by kernel_rfl) (by kernel_rfl) (.free rfl) rfl rfl (qt_field (z := 0) (off := 3) rfl rfl Try.underlying29 rfl (by kernel_rfl) rfl) (fun _ _ _ h => h) ?_
                refine ga_v 1 rfl (by kernel_rfl) (by kernel_rfl) (by kernel_rfl) (.free rfl) rfl rfl (qt_loadB (n := 6) rfl rfl Try.underlying22 rfl rfl rfl) (fun _ _ _ h => h) ?_
                refine ga_v 2 rfl (by kernel_rfl) (by kernel_rfl) (by kernel_rfl) (.free rfl) rfl rfl (qt_move rfl rfl) (fun _ _ _ h => h) ?_
                refine ga_v 3 rfl (by kernel_rfl) (by kernel_rfl) (by kernel_rfl) (.free rfl) rfl rfl (qt_index rfl rfl rfl ulE1 szE1 (fun w M => lenA_row (n := 2) rfl (by omega) (by omega) M) (by omega) (by omega)) (fun _ _ _ h => h) ?_
                refine ga_v 4 rfl (by kernel_rfl) (by kernel_rfl) (by kernel_rfl) (.free rfl) rfl rfl (qt_load1 rfl rfl Try.underlying2 rfl (fun w M => mem_rowU (n := 2) M rfl (by omega) (by omega)) (by omega) (by omega)) (fun _ _ _ h => h) ?_
                refine ga_v 5 rfl (by kernel_rfl) (by kernel_rfl) (by kernel_rfl) (.free rfl) rfl rfl (qt_move rfl rfl) (fun _ _ _ h => h) ?_
                refine ga_op 6 (by kernel_rfl) rfl (.free rfl) fun K74 hK74 => ?_
                refine go_v rfl rfl (qt_index rfl rfl rfl ulE1 szE1 (fun w M => lenA_own1 (n := 5) rfl M) (by omega) (by omega)) ?_
                refine hK74 _ _ (fun w M => (mem_erase 5 (mem_take 10 M) :)) ?_
                refine ga_op 7 (by kernel_rfl) rfl (.free rfl) fun K75 hK75 => ?_
                refine go_store1 (n := 5) rfl rfl rfl rfl (by kernel_rfl) rfl (by omega) (by omega) ?_
                refine hK75 _ _ (fun w M => (mem_erase 5 (mem_take 10 M) :)) ?_
                refine ga_done (by kernel_rfl) ?_
                refine gk_block ?_
                refine gk_then (hK67 _ _ ?_)
                refine gc_region ?_
                refine g_v (.free rfl) rfl rfl (qt_move rfl rfl) ?_
                refine g_v (.free rfl) rfl rfl (qt_add rfl rfl rfl (by omega)) ?_
                refine g_v (.free rfl) rfl rfl (qt_assign rfl rfl) ?_
                refine g_nil ?_
                have hb : UnTw c m := ⟨⟨hs25_7, hs25_14⟩, hc6⟩
                simp only [tabTo_succ, twI_t hb]
                refine gk_then (gk_take 8 ?_)
                refine gk_sub ?hs_76 (hKL64 (m + 1, _, _, _, _) ?hi_76 ?hm_76)
                case hs_76 => exact (sub_cons rfl (sub_cons rfl (sub_cons rfl (sub_cons rfl (sub_cons rfl (sub_cons rfl (sub_cons rfl (sub_cons rfl (sub_cons rfl (sub_cons rfl sub_nil))))))))))
                case hi_76 => omega
                case hm_76 => omega
              · try simp only [decide_eq_true_eq, decide_eq_false_iff_not, Bool.not_eq_true', Bool.not_eq_false', Bool.not_eq_eq_eq_not, Bool.not_true, Bool.not_false, ne_eq, Decidable.not_not, Classical.not_not] at hc6
                refine gc_skip ?_
                refine gk_block ?_
                refine gk_then (hK67 _ _ ?_)
                refine gc_region ?_
                refine g_v (.free rfl) rfl rfl (qt_move rfl rfl) ?_
                refine g_v (.free rfl) rfl rfl (qt_add rfl rfl rfl (by omega)) ?_
                refine g_v (.free rfl) rfl rfl (qt_assign rfl rfl) ?_
                refine g_nil ?_
                have hb : ¬ UnTw c m := fun h => hc6 h.2
                rw [twI_f hb]
                simp only [tabTo_succ]
                refine gk_then (gk_take 8 ?_)
                refine gk_sub ?hs_77 (hKL64 (m + 1, _, _, _, _) ?hi_77 ?hm_77)
                case hs_77 => exact (sub_cons rfl (sub_cons rfl (sub_cons rfl (sub_cons rfl (sub_cons rfl (sub_cons rfl (sub_cons rfl (sub_cons rfl (sub_cons rfl (sub_cons rfl sub_nil))))))))))
                case hi_77 => omega
                case hm_77 => omega
            · try simp only [decide_eq_true_eq, decide_eq_false_iff_not, Bool.not_eq_true', Bool.not_eq_false', Bool.not_eq_eq_eq_not, Bool.not_true, Bool.not_false, ne_eq, Decidable.not_not, Classical.not_not] at hs25_14
              refine gd_skip (.not _ _ _ _ rfl rfl rfl rfl) rfl rfl ?_
              refine gd_skip (.not _ _ _ _ rfl rfl rfl rfl) rfl rfl ?_
              refine gd_skip (.not _ _ _ _ rfl rfl rfl rfl) rfl rfl ?_
              refine gd_skip (.not _ _ _ _ rfl rfl rfl rfl) rfl rfl ?_
              refine gd_skip (.not _ _ _ _ rfl rfl rfl rfl) rfl rfl ?_
              refine gd_v (.free rfl) rfl rfl (qt_pick_f rfl rfl rfl) ?_
              refine gd_nil ?_
              refine gk_then (hK73 _ _ ?_)
              refine gc_cond_f rfl ?_
              refine gc_skip ?_
              refine gk_block ?_
              refine gk_then (hK67 _ _ ?_)
              refine gc_region ?_
              refine g_v (.free rfl) rfl rfl (qt_move rfl rfl) ?_
              refine g_v (.free rfl) rfl rfl (qt_add rfl rfl rfl (by omega)) ?_
              refine g_v (.free rfl) rfl rfl (qt_assign rfl rfl) ?_
              refine g_nil ?_
              have hb : ¬ UnTw c m := fun h => hs25_14 h.1.2
              rw [twI_f hb]
              simp only [tabTo_succ]
              refine gk_then (gk_take 8 ?_)
              refine gk_sub ?hs_78 (hKL64 (m + 1, _, _, _, _) ?hi_78 ?hm_78)
              case hs_78 => exact (sub_cons rfl (sub_cons rfl (sub_cons rfl (sub_cons rfl (sub_cons rfl (sub_cons rfl (sub_cons rfl (sub_cons rfl (sub_cons rfl (sub_cons rfl sub_nil))))))))))
              case hi_78 => omega
              case hm_78 => omega
          · try simp only [decide_eq_true_eq, decide_eq_false_iff_not, Bool.not_eq_true', Bool.not_eq_false', Bool.not_eq_eq_eq_not, Bool.not_true, Bool.not_false, ne_eq, Decidable.not_not, Classical.not_not] at hs25_7
            refine gd_skip (.not _ _ _ _ rfl rfl rfl rfl) rfl rfl ?_
            refine gd_skip (.not _ _ _ _ rfl rfl rfl rfl) rfl rfl ?_
            refine gd_skip (.not _ _ _ _ rfl rfl rfl rfl) rfl rfl ?_
            refine gd_skip (.not _ _ _ _ rfl rfl rfl rfl) rfl rfl ?_
            refine gd_skip (.not _ _ _ _ rfl rfl rfl rfl) rfl rfl ?_
            refine gd_v (.free rfl) rfl rfl (qt_pick_f rfl rfl rfl) ?_
            refine gd_v (.free rfl) rfl rfl (qt_move rfl rfl) ?_
            refine gd_skip (.not _ _ _ _ rfl rfl rfl rfl) rfl rfl ?_
            refine gd_skip (.not _ _ _ _ rfl rfl rfl rfl) rfl rfl ?_
            refine gd_skip (.not _ _ _ _ rfl rfl rfl rfl) rfl rfl ?_
            refine gd_skip (.not _ _ _ _ rfl rfl rfl rfl) rfl rfl ?_
            refine gd_skip (.not _ _ _ _ rfl rfl rfl rfl) rfl rfl ?_
            refine gd_v (.free rfl) rfl rfl (qt_pick_f rfl rfl rfl) ?_
            refine gd_nil ?_
            refine gk_then (hK73 _ _ ?_)
            refine gc_cond_f rfl ?_
            refine gc_skip ?_
            refine gk_block ?_
            refine gk_then (hK67 _ _ ?_)
            refine gc_region ?_
            refine g_v (.free rfl) rfl rfl (qt_move rfl rfl) ?_
            refine g_v (.free rfl) rfl rfl (qt_add rfl rfl rfl (by omega)) ?_
            refine g_v (.free rfl) rfl rfl (qt_assign rfl rfl) ?_
            refine g_nil ?_
            have hb : ¬ UnTw c m := fun h => hs25_7 h.1.1
            rw [twI_f hb]
            simp only [tabTo_succ]
            refine gk_then (gk_take 8 ?_)
            refine gk_sub ?hs_79 (hKL64 (m + 1, _, _, _, _) ?hi_79 ?hm_79)
            case hs_79 => exact (sub_cons rfl (sub_cons rfl (sub_cons rfl (sub_cons rfl (sub_cons rfl (sub_cons rfl (sub_cons rfl (sub_cons rfl (sub_cons rfl (sub_cons rfl sub_nil))))))))))
            case hi_79 => omega
            case hm_79 => omega
        simp only [updL, List.foldl_cons, List.foldl_nil, List.set_cons_succ, List.set_cons_zero, List.cons_append, List.nil_append] at HJ72
        refine ga_start _ (fun w M => mem_erase 4 (mem_erase 7 (M))) ?_
        refine ga_v 0 rfl (by kernel_rfl) (by kernel_rfl) (by kernel_rfl) (.free rfl) rfl rfl (qt_field (z := 0) (off := 2) rfl rfl Try.underlying29 rfl (by kernel_rfl) rfl) (fun _ _ _ h => h) ?_
        refine ga_v 2 rfl (by kernel_rfl) (by kernel_rfl) (by kernel_rfl) (.free rfl) rfl rfl (qt_move rfl rfl) (fun _ _ _ h => h) ?_
        refine ga_v 3 rfl (by kernel_rfl) (by kernel_rfl) (by kernel_rfl) (.free rfl) rfl rfl (qt_index rfl rfl rfl ulE1 szE1 (fun w M => lenA_row (n := 2) rfl (by omega) (by omega) M) (by omega) (by omega)) (fun _ _ _ h => h) ?_
        refine ga_v 4 rfl (by kernel_rfl) (by kernel_rfl) (by kernel_rfl) (.free rfl) rfl rfl (qt_load1 rfl rfl Try.underlying2 rfl (fun w M => mem_rowU (n := 2) M rfl (by omega) (by omega)) (by omega) (by omega)) (fun _ _ _ h => h) ?_
        refine ga_two 1 5 (by kernel_rfl) rfl rfl (.free rfl) (.free rfl) (fun K80 hK80 => ?_) (fun K80 hK80 => ?_)
        · refine go_v rfl rfl (qt_loadB (n := 7) rfl rfl Try.underlying22 rfl rfl rfl) ?_
          refine hK80 _ _ (fun w M => (mem_erase 4 (mem_erase 7 (mem_take 9 M)) :)) ?_
          refine ga_op 5 (by kernel_rfl) rfl (.free rfl) fun K83 hK83 => ?_
          refine go_slice1 rfl rfl rfl rfl Try.underlying22 ?_
          intro B82
          refine hK83 _ _ (fun w M => (mem_erase 4 (mem_erase 7 (mem_take 9 M)) :)) ?_
          refine ga_op 6 (by kernel_rfl) rfl (.free rfl) fun K85 hK85 => ?_
          refine go_append (n := 4) (m := 9) rfl rfl rfl Try.underlying22 rfl rfl rfl rfl (by omega) ?_
          intro va84 vc84
          refine hK85 _ _ (fun w M => (mem_erase 4 (mem_erase 7 (mem_take 9 M)) :)) ?_
          refine ga_v 7 rfl (by kernel_rfl) (by kernel_rfl) (by kernel_rfl) (.free rfl) rfl rfl (qt_field (z := 0) (off := 2) rfl rfl Try.underlying29 rfl (by kernel_rfl) rfl) (fun _ _ _ h => h) ?_
          refine ga_op 8 (by kernel_rfl) rfl (.free rfl) fun K86 hK86 => ?_
          refine go_storeB (n := 7) rfl rfl rfl rfl (by kernel_rfl) rfl rfl rfl (by first | decide | simp) ?_
          refine hK86 _ _ (fun w M => (mem_erase 4 (mem_erase 7 (mem_take 9 M)) :)) ?_
          refine ga_done (by kernel_rfl) ?_
          refine gk_pickL [0, 0, 0, 0, 0, 0, 0, 0, 0, 0] ?_
          refine gk_sub ?hs_87 (HJ72 (_, _, _))
          case hs_87 => exact (sub_cons rfl (sub_cons rfl (sub_cons rfl (sub_cons rfl (sub_cons rfl (sub_cons rfl (sub_cons rfl (sub_cons rfl (sub_cons rfl (sub_cons rfl (sub_cons rfl (sub_cons rfl sub_nil))))))))))))
        · refine go_slice1 rfl rfl rfl rfl Try.underlying22 ?_
          intro B88
          refine hK80 _ _ (fun w M => (mem_erase 4 (mem_erase 7 (mem_take 9 M)) :)) ?_
          refine ga_op 1 (by kernel_rfl) rfl (.free rfl) fun K90 hK90 => ?_
          refine go_v rfl rfl (qt_loadB (n := 7) rfl rfl Try.underlying22 rfl rfl rfl) ?_
          refine hK90 _ _ (fun w M => (mem_erase 4 (mem_erase 7 (mem_take 9 M)) :)) ?_
          refine ga_op 6 (by kernel_rfl) rfl (.free rfl) fun K92 hK92 => ?_
          refine go_append (n := 4) (m := 9) rfl rfl rfl Try.underlying22 rfl rfl rfl rfl (by omega) ?_
          intro va91 vc91
          refine hK92 _ _ (fun w M => (mem_erase 4 (mem_erase 7 (mem_take 9 M)) :)) ?_
          refine ga_v 7 rfl (by kernel_rfl) (by kernel_rfl) (by kernel_rfl) (.free rfl) rfl rfl (qt_field (z := 0) (off := 2) rfl rfl Try.underlying29 rfl (by kernel_rfl) rfl) (fun _ _ _ h => h) ?_
          refine ga_op 8 (by kernel_rfl) rfl (.free rfl) fun K93 hK93 => ?_
          refine go_storeB (n := 7) rfl rfl rfl rfl (by kernel_rfl) rfl rfl rfl (by first | decide | simp) ?_
          refine hK93 _ _ (fun w M => (mem_erase 4 (mem_erase 7 (mem_take 9 M)) :)) ?_
          refine ga_done (by kernel_rfl) ?_
          refine gk_pickL [0, 0, 0, 0, 0, 0, 0, 0, 0, 0] ?_
          refine gk_sub ?hs_94 (HJ72 (_, _, _))
          case hs_94 => exact (sub_cons rfl (sub_cons rfl (sub_cons rfl (sub_cons rfl (sub_cons rfl (sub_cons rfl (sub_cons rfl (sub_cons rfl (sub_cons rfl (sub_cons rfl (sub_cons rfl (sub_cons rfl sub_nil))))))))))))
      simp only [updL, List.foldl_cons, List.foldl_nil, List.set_cons_succ, List.set_cons_zero, List.cons_append, List.nil_append] at HJ70
      refine ga_start _ (fun w M => mem_erase 3 (mem_erase 7 (M))) ?_
      refine ga_v 0 rfl (by kernel_rfl) (by kernel_rfl) (by kernel_rfl) (.free rfl) rfl rfl (qt_field (z := 0) (off := 1) rfl rfl Try.underlying29 rfl (by kernel_rfl) rfl) (fun _ _ _ h => h) ?_
      refine ga_v 2 rfl (by kernel_rfl) (by kernel_rfl) (by kernel_rfl) (.free rfl) rfl rfl (qt_move rfl rfl) (fun _ _ _ h => h) ?_
      refine ga_v 3 rfl (by kernel_rfl) (by kernel_rfl) (by kernel_rfl) (.free rfl) rfl rfl (qt_index rfl rfl rfl ulE1 szE1 (fun w M => lenA_row (n := 2) rfl (by omega) (by omega) M) (by omega) (by omega)) (fun _ _ _ h => h) ?_
      refine ga_v 4 rfl (by kernel_rfl) (by kernel_rfl) (by kernel_rfl) (.free rfl) rfl rfl (qt_load1 rfl rfl Try.underlying2 rfl (fun w M => mem_rowU (n := 2) M rfl (by omega) (by omega)) (by omega) (by omega)) (fun _ _ _ h => h) ?_
      refine ga_two 1 5 (by kernel_rfl) rfl rfl (.free rfl) (.free rfl) (fun K95 hK95 => ?_) (fun K95 hK95 => ?_)
      · refine go_v rfl rfl (qt_loadB (n := 7) rfl rfl Try.underlying22 rfl rfl rfl) ?_
        refine hK95 _ _ (fun w M => (mem_erase 3 (mem_erase 7 (mem_take 8 M)) :)) ?_
        refine ga_op 5 (by kernel_rfl) rfl (.free rfl) fun K98 hK98 => ?_
        refine go_slice1 rfl rfl rfl rfl Try.underlying22 ?_
        intro B97
        refine hK98 _ _ (fun w M => (mem_erase 3 (mem_erase 7 (mem_take 8 M)) :)) ?_
        refine ga_op 6 (by kernel_rfl) rfl (.free rfl) fun K100 hK100 => ?_
        refine go_append (n := 3) (m := 8) rfl rfl rfl Try.underlying22 rfl rfl rfl rfl (by omega) ?_
        intro va99 vc99
        refine hK100 _ _ (fun w M => (mem_erase 3 (mem_erase 7 (mem_take 8 M)) :)) ?_
        refine ga_v 7 rfl (by kernel_rfl) (by kernel_rfl) (by kernel_rfl) (.free rfl) rfl rfl (qt_field (z := 0) (off := 1) rfl rfl Try.underlying29 rfl (by kernel_rfl) rfl) (fun _ _ _ h => h) ?_
        refine ga_op 8 (by kernel_rfl) rfl (.free rfl) fun K101 hK101 => ?_
        refine go_storeB (n := 7) rfl rfl rfl rfl (by kernel_rfl) rfl rfl rfl (by first | decide | simp) ?_
        refine hK101 _ _ (fun w M => (mem_erase 3 (mem_erase 7 (mem_take 8 M)) :)) ?_
        refine ga_done (by kernel_rfl) ?_
        refine gk_pickL [0, 0, 0, 0, 0, 0, 0, 0, 0] ?_
        refine gk_sub ?hs_102 (HJ70 (_, _, _))
        case hs_102 => exact (sub_cons rfl (sub_cons rfl (sub_cons rfl (sub_cons rfl (sub_cons rfl (sub_cons rfl (sub_cons rfl (sub_cons rfl (sub_cons rfl (sub_cons rfl (sub_cons rfl (sub_cons rfl sub_nil))))))))))))
      · refine go_slice1 rfl rfl rfl rfl Try.underlying22 ?_
        intro B103
        refine hK95 _ _ (fun w M => (mem_erase 3 (mem_erase 7 (mem_take 8 M)) :)) ?_
        refine ga_op 1 (by kernel_rfl) rfl (.free rfl) fun K105 hK105 => ?_
        refine go_v rfl rfl (qt_loadB (n := 7) rfl rfl Try.underlying22 rfl rfl rfl) ?_
        refine hK105 _ _ (fun w M => (mem_erase 3 (mem_erase 7 (mem_take 8 M)) :)) ?_
        refine ga_op 6 (by kernel_rfl) rfl (.free rfl) fun K107 hK107 => ?_
        refine go_append (n := 3) (m := 8) rfl rfl rfl Try.underlying22 rfl rfl rfl rfl (by omega) ?_
        intro va106 vc106
        refine hK107 _ _ (fun w M => (mem_erase 3 (mem_erase 7 (mem_take 8 M)) :)) ?_
        refine ga_v 7 rfl (by kernel_rfl) (by kernel_rfl) (by kernel_rfl) (.free rfl) rfl rfl (qt_field (z := 0) (off := 1) rfl rfl Try.underlying29 rfl (by kernel_rfl) rfl) (fun _ _ _ h => h) ?_
        refine ga_op 8 (by kernel_rfl) rfl (.free rfl) fun K108 hK108 => ?_
        refine go_storeB (n := 7) rfl rfl rfl rfl (by kernel_rfl) rfl rfl rfl (by first | decide | simp) ?_
        refine hK108 _ _ (fun w M => (mem_erase 3 (mem_erase 7 (mem_take 8 M)) :)) ?_
        refine ga_done (by kernel_rfl) ?_
        refine gk_pickL [0, 0, 0, 0, 0, 0, 0, 0, 0] ?_
        refine gk_sub ?hs_109 (HJ70 (_, _, _))
        case hs_109 => exact (sub_cons rfl (sub_cons rfl (sub_cons rfl (sub_cons rfl (sub_cons rfl (sub_cons rfl (sub_cons rfl (sub_cons rfl (sub_cons rfl (sub_cons rfl (sub_cons rfl (sub_cons rfl sub_nil))))))))))))
    · try simp only [decide_eq_true_eq, decide_eq_false_iff_not, Bool.not_eq_true', Bool.not_eq_false', Bool.not_eq_eq_eq_not, Bool.not_true, Bool.not_false, ne_eq, Decidable.not_not, Classical.not_not] at hc5
      refine gc_exit ?_
      refine gk_then_exit ?_
      refine gk_then_exit ?_
      refine gk_block_hit ?_
      refine gk_then (hK62 _ _ ?_)
      refine gc_seq fun K110 hK110 => ?_
      refine gc_seq fun K111 hK111 => ?_
      obtain rfl : m = (twR c).length := by omega
      refine gc_region ?_
      refine g_v (.free rfl) rfl rfl (qt_assign rfl rfl) ?_
      refine g_nil ?_
      refine gk_then (hK111 _ _ ?_)
      refine gc_block ?_
      try simp only [List.nil_append, List.cons_append, List.append_assoc, List.set_cons_succ, List.set_cons_zero]
      refine gc_loop ([(0, _), (1, _), (2, _), (3, _), (4, _), (5, _), (6, _), (12, _), (13, _), (29, _), (112, _)] : Env) (fun s : Nat × (Option Addr) × Nat × (List Value) => (fun (p : Nat) (a4 : Option Addr) (q4 : Nat) (us4 : List Value) => ([(15, .int .i64 (p : Int))] : Env)) s.1 s.2.1 s.2.2.1 s.2.2.2) (fun s : Nat × (Option Addr) × Nat × (List Value) => (fun (p : Nat) (a4 : Option Addr) (q4 : Nat) (us4 : List Value) => ([(6, own2U (.slice a4 (rowsTo (twRow c) p).length q4) us4 (rowsTo (twRow c) p)), (7, bxI B59 29 [.int .i64 c.s.length, .slice a1 (tabTo (fun j => at0 (row2 (twR c) (j : Int)) 0) (twR c).length).length q1, .slice a2 (tabTo (fun j => at0 (row2 (twR c) (j : Int)) 1) (twR c).length).length q2, .slice (some ⟨B55, 0, none⟩) c.s.length c.s.length, .slice a4 (rowsTo (twRow c) p).length q4])] : List (Nat × Itm))) s.1 s.2.1 s.2.2.1 s.2.2.2) (fun s : Nat × (Option Addr) × Nat × (List Value) => (fun (p : Nat) (a4 : Option Addr) (q4 : Nat) (us4 : List Value) => p ≤ (twR c).length ∧ (p = 0 ∨ (twR c).length ≤ 40)) s.1 s.2.1 s.2.2.1 s.2.2.2) (fun s : Nat × (Option Addr) × Nat × (List Value) => (fun (p : Nat) (a4 : Option Addr) (q4 : Nat) (us4 : List Value) => (twR c).length - p) s.1 s.2.1 s.2.2.1 s.2.2.2) (0, _, _, _) (sub_cons rfl (sub_cons rfl (sub_cons rfl (sub_cons rfl (sub_cons rfl (sub_cons rfl (sub_cons rfl (sub_cons rfl (sub_cons rfl (sub_cons rfl (sub_cons rfl (sub_cons rfl sub_nil)))))))))))) rfl ⟨Nat.zero_le _, .inl rfl⟩ ?_
      rintro ⟨p, a4, q4, us4⟩ hinv KL112 hKL112
      simp only [updL, List.foldl_cons, List.foldl_nil, List.set_cons_succ, List.set_cons_zero, List.cons_append, List.nil_append] at hinv hKL112 ⊢
      obtain ⟨hp, hp40⟩ := hinv
      have hr4 := rowsTo_len (twRow c) p
      refine gc_seq fun K113 hK113 => ?_
      refine gc_seq fun K114 hK114 => ?_
      refine gc_region ?_
      refine g_v (.free rfl) rfl rfl (qt_move rfl rfl) ?_
      refine g_v (.free rfl) rfl rfl (qt_move rfl rfl) ?_
      refine g_v (.free rfl) rfl rfl (qt_len rfl rfl ulE2 (fun w M => lenV_U (n := 2) rfl M)) ?_
      refine g_v (.free rfl) rfl rfl (qt_lss rfl rfl rfl) ?_
      refine g_splitv (.free rfl) rfl rfl (qt_move rfl rfl) (fun hs28_4 => ?_) (fun hs28_4 => ?_)
      · try simp only [decide_eq_true_eq, decide_eq_false_iff_not, Bool.not_eq_true', Bool.not_eq_false', Bool.not_eq_eq_eq_not, Bool.not_true, Bool.not_false, ne_eq, Decidable.not_not, Classical.not_not] at hs28_4
        refine g_v (.held _ _ _ rfl rfl rfl) rfl rfl (qt_move rfl rfl) ?_
        refine g_v (.held _ _ _ rfl rfl rfl) rfl rfl (qt_len rfl rfl ulE2 (fun w M => lenV_U (n := 2) rfl M)) ?_
        refine g_v (.held _ _ _ rfl rfl rfl) rfl rfl (qt_leq rfl rfl rfl) ?_
        refine g_v (.free rfl) rfl rfl (qt_pick_t rfl rfl rfl) ?_
        refine g_nil ?_
        refine gk_then (hK114 _ _ ?_)
        refine gc_cond rfl (fun hc7 => ?_) (fun hc7 => ?_)
        · try simp only [decide_eq_true_eq, decide_eq_false_iff_not, Bool.not_eq_true', Bool.not_eq_false', Bool.not_eq_eq_eq_not, Bool.not_true, Bool.not_false, ne_eq, Decidable.not_not, Classical.not_not] at hc7
          refine gc_skip ?_
          refine gk_then (hK113 _ _ ?_)
          refine gc_seq fun K115 hK115 => ?_
          refine gc_block ?_
          refine gc_seq fun K116 hK116 => ?_
          refine gc_region ?_
          refine g_op (.free rfl) fun K118 hK118 => ?_
          refine go_slice0 rfl rfl rfl Try.underlying22 ?_
          intro B117
          refine hK118 _ _ ?_
          refine g_v (.free rfl) rfl rfl (qt_assign rfl rfl) ?_
          refine g_nil ?_
          refine gk_then (hK116 _ _ ?_)
          refine gc_seq fun K119 hK119 => ?_
          refine gc_seq fun K120 hK120 => ?_
          refine gc_region ?_
          refine g_v (.free rfl) rfl rfl (qt_assign rfl rfl) ?_
          refine g_nil ?_
          refine gk_then (hK120 _ _ ?_)
          refine gc_block ?_
          try simp only [List.nil_append, List.cons_append, List.append_assoc, List.set_cons_succ, List.set_cons_zero]
          refine gc_loop ([(0, _), (1, _), (2, _), (3, _), (4, _), (5, _), (6, _), (12, _), (13, _), (15, _), (29, _), (112, _), (171, _)] : Env) (fun s : Nat × (Option Addr) × Nat => (fun (k : Nat) (a5 : Option Addr) (q5 : Nat) => ([(16, .slice a5 (tabTo (twC c p) k).length q5), (17, .int .i64 (k : Int))] : Env)) s.1 s.2.1 s.2.2) (fun s : Nat × (Option Addr) × Nat => (fun (k : Nat) (a5 : Option Addr) (q5 : Nat) => ([(8, own1I (.slice a5 (tabTo (twC c p) k).length q5) (tabTo (twC c p) k))] : List (Nat × Itm))) s.1 s.2.1 s.2.2) (fun s : Nat × (Option Addr) × Nat => (fun (k : Nat) (a5 : Option Addr) (q5 : Nat) => k ≤ (twR c).length) s.1 s.2.1 s.2.2) (fun s : Nat × (Option Addr) × Nat => (fun (k : Nat) (a5 : Option Addr) (q5 : Nat) => (twR c).length - k) s.1 s.2.1 s.2.2) (0, _, _) (sub_cons rfl (sub_cons rfl (sub_cons rfl (sub_cons rfl (sub_cons rfl (sub_cons rfl (sub_cons rfl (sub_cons rfl (sub_cons rfl (sub_cons rfl (sub_cons rfl (sub_cons rfl (sub_cons rfl (sub_cons rfl (sub_cons rfl sub_nil))))))))))))))) rfl (Nat.zero_le _) ?_
          rintro ⟨k, a5, q5⟩ hinv KL121 hKL121
          simp only [updL, List.foldl_cons, List.foldl_nil, List.set_cons_succ, List.set_cons_zero, List.cons_append, List.nil_append] at hinv hKL121 ⊢
          have hk := hinv
          have ht5 := tabTo_len (twC c p) k
          refine gc_seq fun K122 hK122 => ?_
          refine gc_seq fun K123 hK123 => ?_
          refine gc_region ?_
          refine g_v (.free rfl) rfl rfl (qt_move rfl rfl) ?_
          refine g_v (.free rfl) rfl rfl (qt_move rfl rfl) ?_
          refine g_v (.free rfl) rfl rfl (qt_len rfl rfl ulE2 (fun w M => lenV_U (n := 2) rfl M)) ?_
          refine g_v (.free rfl) rfl rfl (qt_lss rfl rfl rfl) ?_
          refine g_nil ?_
          refine gk_then (hK123 _ _ ?_)
          refine gc_cond rfl (fun hc8 => ?_) (fun hc8 => ?_)
          · try simp only [decide_eq_true_eq, decide_eq_false_iff_not, Bool.not_eq_true', Bool.not_eq_false', Bool.not_eq_eq_eq_not, Bool.not_true, Bool.not_false, ne_eq, Decidable.not_not, Classical.not_not] at hc8
            refine gc_skip ?_
            refine gk_then (hK122 _ _ ?_)
            refine gc_seq fun K124 hK124 => ?_
            refine gc_block ?_
            refine gc_seq fun K125 hK125 => ?_
            refine gc_region ?_
            refine g_v (.free rfl) rfl rfl (qt_assign rfl rfl) ?_
            refine g_nil ?_
            refine gk_then (hK125 _ _ ?_)
            refine gc_seq fun K126 hK126 => ?_
            have Pp := twR_P (c := c) (i := p) (by omega)
            have pl := Pp.len; have p0 := Pp.r0.1; have p1 := Pp.r0.2; have p2 := Pp.r1.1; have p3 := Pp.r1.2; have p4 := Pp.r2.1; have p5 := Pp.r2.2; have p6 := Pp.r3.1; have p7 := Pp.r3.2
            have Pk := twR_P (c := c) (i := k) (by omega)
            have kl := Pk.len; have k0 := Pk.r0.1; have k1 := Pk.r0.2; have k2 := Pk.r1.1; have k3 := Pk.r1.2; have k4 := Pk.r2.1; have k5 := Pk.r2.2; have k6 := Pk.r3.1; have k7 := Pk.r3.2
            refine gc_draw (by kernel_rfl) ?_
            refine gd_v (.free rfl) rfl rfl (qt_move rfl rfl) ?_
            refine gd_v (.free rfl) rfl rfl (qt_move rfl rfl) ?_
            refine gd_v (.free rfl) rfl rfl (qt_index rfl rfl rfl ulE2 szE2 (fun w M => lenA_U (n := 2) rfl M) (by omega) (by omega)) ?_
            refine gd_v (.free rfl) rfl rfl (qt_loadU (n := 2) rfl rfl Try.underlying22 rfl rfl (by omega) (by omega)) ?_
            refine gd_v (.free rfl) rfl rfl (qt_move rfl rfl) ?_
            refine gd_v (.free rfl) rfl rfl (qt_move rfl rfl) ?_
            refine gd_v (.free rfl) rfl rfl (qt_index rfl rfl rfl ulE2 szE2 (fun w M => lenA_U (n := 2) rfl M) (by omega) (by omega)) ?_
            refine gd_v (.free rfl) rfl rfl (qt_loadU (n := 2) rfl rfl Try.underlying22 rfl rfl (by omega) (by omega)) ?_
            refine gd_v (.free rfl) rfl rfl (qt_assign rfl rfl) ?_
            refine gd_v (.free rfl) rfl rfl (qt_assign rfl rfl) ?_
            refine gd_nil ?_
            refine gk_then (hK126 _ _ ?_)
            refine gc_seq fun K127 hK127 => ?_
            refine gc_seq fun K128 hK128 => ?_
            refine gc_draw (by kernel_rfl) ?_
            refine gd_v (.free rfl) rfl rfl (qt_move rfl rfl) ?_
            refine gd_v (.free rfl) rfl rfl (qt_index rfl rfl rfl ulE1 szE1 (fun w M => lenA_row (n := 2) rfl (by omega) (by omega) M) (by omega) (by omega)) ?_
            refine gd_v (.free rfl) rfl rfl (qt_load1 rfl rfl Try.underlying2 rfl (fun w M => mem_rowU (n := 2) M rfl (by omega) (by omega)) (by omega) (by omega)) ?_
            refine gd_v (.free rfl) rfl rfl (qt_move rfl rfl) ?_
            refine gd_v (.free rfl) rfl rfl (qt_index rfl rfl rfl ulE1 szE1 (fun w M => lenA_row (n := 2) rfl (by omega) (by omega) M) (by omega) (by omega)) ?_
            refine gd_v (.free rfl) rfl rfl (qt_load1 rfl rfl Try.underlying2 rfl (fun w M => mem_rowU (n := 2) M rfl (by omega) (by omega)) (by omega) (by omega)) ?_
            refine gd_v (.free rfl) rfl rfl (qt_eql rfl rfl rfl) ?_
            refine gd_nil ?_
            refine gk_then (hK128 _ _ ?_)
            refine gc_cond rfl (fun hc9 => ?_) (fun hc9 => ?_)
            · try simp only [decide_eq_true_eq, decide_eq_false_iff_not, Bool.not_eq_true', Bool.not_eq_false', Bool.not_eq_eq_eq_not, Bool.not_true, Bool.not_false, ne_eq, Decidable.not_not, Classical.not_not] at hc9
              refine gc_seq fun K129 hK129 => ?_
              have hw := arrP hS (f := at0 (row2 (twR c) (k : Int)) 2) (by omega) (by omega)
              have w1 := hw.fs; have w2 := hw.ft; have w3 := hw.row; have w4 := hw.fm
              have hz := arrP hS (f := at0 (row2 (twR c) (p : Int)) 3) (by omega) (by omega)
              have z1 := hz.fs; have z2 := hz.ft; have z3 := hz.row; have z4 := hz.fm
              have z5 := lastI_rng (twR c) (dueT c p k)
              try simp only [List.nil_append, List.cons_append, List.append_assoc, List.set_cons_succ, List.set_cons_zero]
              refine ga_start _ (fun w M => M) ?_
              refine ga_v 0 rfl (by kernel_rfl) (by kernel_rfl) (by kernel_rfl) (.free rfl) rfl rfl (qt_move rfl rfl) (fun _ _ _ h => h) ?_
              refine ga_v 1 rfl (by kernel_rfl) (by kernel_rfl) (by kernel_rfl) (.free rfl) rfl rfl (qt_index rfl rfl rfl ulE1 szE1 (fun w M => lenA_row (n := 2) rfl (by omega) (by omega) M) (by omega) (by omega)) (fun _ _ _ h => h) ?_
              refine ga_v 2 rfl (by kernel_rfl) (by kernel_rfl) (by kernel_rfl) (.free rfl) rfl rfl (qt_load1 rfl rfl Try.underlying2 rfl (fun w M => mem_rowU (n := 2) M rfl (by omega) (by omega)) (by omega) (by omega)) (fun _ _ _ h => h) ?_
              refine ga_v 3 rfl (by kernel_rfl) (by kernel_rfl) (by kernel_rfl) (.free rfl) rfl rfl (qt_move rfl rfl) (fun _ _ _ h => h) ?_
              refine ga_v 4 rfl (by kernel_rfl) (by kernel_rfl) (by kernel_rfl) (.free rfl) rfl rfl (qt_index rfl rfl rfl ulE1 szE1 (fun w M => lenA_row (n := 2) rfl (by omega) (by omega) M) (by omega) (by omega)) (fun _ _ _ h => h) ?_
              refine ga_v 5 rfl (by kernel_rfl) (by kernel_rfl) (by kernel_rfl) (.free rfl) rfl rfl (qt_load1 rfl rfl Try.underlying2 rfl (fun w M => mem_rowU (n := 2) M rfl (by omega) (by omega)) (by omega) (by omega)) (fun _ _ _ h => h) ?_
              refine ga_v 6 rfl (by kernel_rfl) (by kernel_rfl) (by kernel_rfl) (.free rfl) rfl rfl (qt_loadS (n := 0) rfl rfl Try.underlying29 rfl (by kernel_rfl) rfl) (fun _ _ _ h => h) ?_
              refine ga_v 7 rfl (by kernel_rfl) (by kernel_rfl) (by kernel_rfl) (.free rfl) rfl rfl (qt_move rfl rfl) (fun _ _ _ h => h) ?_
              refine ga_v 8 rfl (by kernel_rfl) (by kernel_rfl) (by kernel_rfl) (.free rfl) rfl rfl (qt_index rfl rfl rfl ulE1 szE1 (fun w M => lenA_row (n := 2) rfl (by omega) (by omega) M) (by omega) (by omega)) (fun _ _ _ h => h) ?_
              refine ga_v 9 rfl (by kernel_rfl) (by kernel_rfl) (by kernel_rfl) (.free rfl) rfl rfl (qt_load1 rfl rfl Try.underlying2 rfl (fun w M => mem_rowU (n := 2) M rfl (by omega) (by omega)) (by omega) (by omega)) (fun _ _ _ h => h) ?_
              refine ga_v 10 rfl (by kernel_rfl) (by kernel_rfl) (by kernel_rfl) (.free rfl) rfl rfl (qt_move rfl rfl) (fun _ _ _ h => h) ?_
              refine ga_v 11 rfl (by kernel_rfl) (by kernel_rfl) (by kernel_rfl) (.free rfl) rfl rfl (qt_index rfl rfl rfl ulE1 szE1 (fun w M => lenA_row (n := 2) rfl (by omega) (by omega) M) (by omega) (by omega)) (fun _ _ _ h => h) ?_
              refine ga_v 12 rfl (by kernel_rfl) (by kernel_rfl) (by kernel_rfl) (.free rfl) rfl rfl (qt_load1 rfl rfl Try.underlying2 rfl (fun w M => mem_rowU (n := 2) M rfl (by omega) (by omega)) (by omega) (by omega)) (fun _ _ _ h => h) ?_
              refine ga_v 14 rfl (by kernel_rfl) (by kernel_rfl) (by kernel_rfl) (.free rfl) rfl rfl (qt_loadS (n := 0) rfl rfl Try.underlying29 rfl (by kernel_rfl) rfl) (fun _ _ _ h => h) ?_
              refine ga_v 15 rfl (by kernel_rfl) (by kernel_rfl) (by kernel_rfl) (.free rfl) rfl rfl (qt_move rfl rfl) (fun _ _ _ h => h) ?_
              refine ga_v 16 rfl (by kernel_rfl) (by kernel_rfl) (by kernel_rfl) (.free rfl) rfl rfl (qt_index rfl rfl rfl ulE1 szE1 (fun w M => lenA_row (n := 2) rfl (by omega) (by omega) M) (by omega) (by omega)) (fun _ _ _ h => h) ?_
              refine ga_v 17 rfl (by kernel_rfl) (by kernel_rfl) (by kernel_rfl) (.free rfl) rfl rfl (qt_load1 rfl rfl Try.underlying2 rfl (fun w M => mem_rowU (n := 2) M rfl (by omega) (by omega)) (by omega) (by omega)) (fun _ _ _ h => h) ?_
              refine ga_v 18 rfl (by kernel_rfl) (by kernel_rfl) (by kernel_rfl) (.free rfl) rfl rfl (qt_move rfl rfl) (fun _ _ _ h => h) ?_
              refine ga_v 19 rfl (by kernel_rfl) (by kernel_rfl) (by kernel_rfl) (.free rfl) rfl rfl (qt_index rfl rfl rfl ulE1 szE1 (fun w M => lenA_row (n := 2) rfl (by omega) (by omega) M) (by omega) (by omega)) (fun _ _ _ h => h) ?_
              refine ga_v 20 rfl (by kernel_rfl) (by kernel_rfl) (by kernel_rfl) (.free rfl) rfl rfl (qt_load1 rfl rfl Try.underlying2 rfl (fun w M => mem_rowU (n := 2) M rfl (by omega) (by omega)) (by omega) (by omega)) (fun _ _ _ h => h) ?_
              refine ga_op 13 (by kernel_rfl) rfl (.free rfl) fun K130 hK130 => ?_
              refine go_q rfl rfl (qt_call rfl Try.func81 rfl (by decide) rfl (fun w M => specThen_any w _ _ _ _ (mem_rdC M h0) (by first | assumption | omega) (by first | assumption | omega) (by first | assumption | omega) (by first | assumption | omega))) ?_
              refine hK130 _ _ (fun w M => (mem_take 9 M :)) ?_
              refine ga_op 21 (by kernel_rfl) rfl (.free rfl) fun K131 hK131 => ?_
              refine go_q rfl rfl (qt_call rfl Try.func81 rfl (by decide) rfl (fun w M => specThen_any w _ _ _ _ (mem_rdC M h0) (by first | assumption | omega) (by first | assumption | omega) (by first | assumption | omega) (by first | assumption | omega))) ?_
              refine hK131 _ _ (fun w M => (mem_take 9 M :)) ?_
              refine ga_op 22 (by kernel_rfl) rfl (.free rfl) fun K133 hK133 => ?_
              refine go_slice4 rfl rfl rfl rfl rfl rfl rfl Try.underlying22 ?_
              intro B132
              refine hK133 _ _ (fun w M => (mem_take 9 M :)) ?_
              refine ga_v 23 rfl (by kernel_rfl) (by kernel_rfl) (by kernel_rfl) (.free rfl) rfl rfl (qt_assign rfl rfl) (fun _ _ _ h => h) ?_
              refine ga_done (by kernel_rfl) ?_
              refine gk_then (hK129 _ _ ?_)
              refine gc_seq fun K134 hK134 => ?_
              refine gc_region ?_
              refine g_v (.free rfl) rfl rfl (qt_assign rfl rfl) ?_
              refine g_nil ?_
              refine gk_then (hK134 _ _ ?_)
              refine gc_block ?_
              try simp only [List.nil_append, List.cons_append, List.append_assoc, List.set_cons_succ, List.set_cons_zero]
              refine gc_loop ([(0, _), (1, _), (2, _), (3, _), (4, _), (5, _), (6, _), (12, _), (13, _), (15, _), (16, _), (17, _), (19, _), (20, _), (21, _), (29, _), (112, _), (171, _), (178, _), (195, _)] : Env) (fun s : Nat => (fun (l : Nat) => ([(18, .int .i64 (lastI (twR c) (dueT c p k) l)), (22, .int .i64 (l : Int))] : Env)) s) (fun s : Nat => (fun (l : Nat) => ([] : List (Nat × Itm))) s) (fun s : Nat => (fun (l : Nat) => l ≤ (twR c).length) s) (fun s : Nat => (fun (l : Nat) => (twR c).length - l) s) (0) (sub_cons rfl (sub_cons rfl (sub_cons rfl (sub_cons rfl (sub_cons rfl (sub_cons rfl (sub_cons rfl (sub_cons rfl (sub_cons rfl (sub_cons rfl (sub_cons rfl (sub_cons rfl (sub_cons rfl (sub_cons rfl (sub_cons rfl (sub_cons rfl (sub_cons rfl (sub_cons rfl (sub_cons rfl (sub_cons rfl (sub_cons rfl (sub_cons rfl sub_nil)))))))))))))))))))))) rfl (Nat.zero_le _) ?_
              rintro l hinv KL135 hKL135
              simp only [updL, List.foldl_cons, List.foldl_nil, List.set_cons_succ, List.set_cons_zero, List.cons_append, List.nil_append] at hinv hKL135 ⊢
              have hl := hinv
              refine gc_seq fun K136 hK136 => ?_
              refine gc_seq fun K137 hK137 => ?_
              refine gc_region ?_
              refine g_v (.free rfl) rfl rfl (qt_move rfl rfl) ?_
              refine g_v (.free rfl) rfl rfl (qt_move rfl rfl) ?_
              refine g_v (.free rfl) rfl rfl (qt_len rfl rfl ulE2 (fun w M => lenV_U (n := 2) rfl M)) ?_
              refine g_v (.free rfl) rfl rfl (qt_lss rfl rfl rfl) ?_
              refine g_nil ?_
              refine gk_then (hK137 _ _ ?_)
              refine gc_cond rfl (fun hc10 => ?_) (fun hc10 => ?_)
              · try simp only [decide_eq_true_eq, decide_eq_false_iff_not, Bool.not_eq_true', Bool.not_eq_false', Bool.not_eq_eq_eq_not, Bool.not_true, Bool.not_false, ne_eq, Decidable.not_not, Classical.not_not] at hc10
                refine gc_skip ?_
                refine gk_then (hK136 _ _ ?_)
                refine gc_seq fun K138 hK138 => ?_
                refine gc_block ?_
                refine gc_seq fun K139 hK139 => ?_
                refine gc_region ?_
                refine g_v (.free rfl) rfl rfl (qt_move rfl rfl) ?_
                refine g_v (.free rfl) rfl rfl (qt_move rfl rfl) ?_
                refine g_v (.free rfl) rfl rfl (qt_index rfl rfl rfl ulE2 szE2 (fun w M => lenA_U (n := 2) rfl M) (by omega) (by omega)) ?_
                refine g_v (.free rfl) rfl rfl (qt_loadU (n := 2) rfl rfl Try.underlying22 rfl rfl (by omega) (by omega)) ?_
                refine g_v (.free rfl) rfl rfl (qt_move rfl rfl) ?_
                refine g_q (.free rfl) rfl rfl (qt_call rfl Try.func37 rfl (by decide) rfl (fun w M => specSame_any w _ _ _ _ (mem_rowU (n := 2) M rfl (by omega) (by omega)) ((mem_own1 (n := 9) M rfl).rd))) ?_
                refine g_nil ?_
                refine gk_then (hK139 _ _ ?_)
                refine gc_cond rfl (fun hc11 => ?_) (fun hc11 => ?_)
                · try simp only [decide_eq_true_eq, decide_eq_false_iff_not, Bool.not_eq_true', Bool.not_eq_false', Bool.not_eq_eq_eq_not, Bool.not_true, Bool.not_false, ne_eq, Decidable.not_not, Classical.not_not] at hc11
                  refine gc_region ?_
                  refine g_v (.free rfl) rfl rfl (qt_move rfl rfl) ?_
                  refine g_v (.free rfl) rfl rfl (qt_assign rfl rfl) ?_
                  refine g_nil ?_
                  refine gk_block ?_
                  refine gk_then (hK138 _ _ ?_)
                  refine gc_region ?_
                  refine g_v (.free rfl) rfl rfl (qt_move rfl rfl) ?_
                  refine g_v (.free rfl) rfl rfl (qt_add rfl rfl rfl (by omega)) ?_
                  refine g_v (.free rfl) rfl rfl (qt_assign rfl rfl) ?_
                  refine g_nil ?_
                  have hd : row2 (twR c) (l : Int) = dueT c p k := hc11
                  rw [show (Value.int IntKind.i64 (l : Int)) = Value.int IntKind.i64 (lastI (twR c) (dueT c p k) (l + 1)) from congrArg _ (lastI_t hd)]
                  refine gk_then (gk_take 10 ?_)
                  refine gk_sub ?hs_140 (hKL135 (l + 1) ?hi_140 ?hm_140)
                  case hs_140 => exact (sub_cons rfl (sub_cons rfl (sub_cons rfl (sub_cons rfl (sub_cons rfl (sub_cons rfl (sub_cons rfl (sub_cons rfl (sub_cons rfl (sub_cons rfl (sub_cons rfl (sub_cons rfl (sub_cons rfl (sub_cons rfl (sub_cons rfl (sub_cons rfl (sub_cons rfl (sub_cons rfl (sub_cons rfl (sub_cons rfl (sub_cons rfl (sub_cons rfl sub_nil))))))))))))))))))))))
                  case hi_140 => omega
                  case hm_140 => omega
                · try simp only [decide_eq_true_eq, decide_eq_false_iff_not, Bool.not_eq_true', Bool.not_eq_false', Bool.not_eq_eq_eq_not, Bool.not_true, Bool.not_false, ne_eq, Decidable.not_not, Classical.not_not] at hc11
                  refine gc_skip ?_
                  refine gk_block ?_
                  refine gk_then (hK138 _ _ ?_)
                  refine gc_region ?_
                  refine g_v (.free rfl) rfl rfl (qt_move rfl rfl) ?_
                  refine g_v (.free rfl) rfl rfl (qt_add rfl rfl rfl (by omega)) ?_
                  refine g_v (.free rfl) rfl rfl (qt_assign rfl rfl) ?_
                  refine g_nil ?_
                  have hd : ¬ row2 (twR c) (l : Int) = dueT c p k := hc11
                  rw [lastI_f hd]
                  refine gk_then (gk_take 10 ?_)
                  refine gk_sub ?hs_141 (hKL135 (l + 1) ?hi_141 ?hm_141)
                  case hs_141 => exact (sub_cons rfl (sub_cons rfl (sub_cons rfl (sub_cons rfl (sub_cons rfl (sub_cons rfl (sub_cons rfl (sub_cons rfl (sub_cons rfl (sub_cons rfl (sub_cons rfl (sub_cons rfl (sub_cons rfl (sub_cons rfl (sub_cons rfl (sub_cons rfl (sub_cons rfl (sub_cons rfl (sub_cons rfl (sub_cons rfl (sub_cons rfl (sub_cons rfl sub_nil))))))))))))))))))))))
                  case hi_141 => omega
                  case hm_141 => omega
              · try simp only [decide_eq_true_eq, decide_eq_false_iff_not, Bool.not_eq_true', Bool.not_eq_false', Bool.not_eq_eq_eq_not, Bool.not_true, Bool.not_false, ne_eq, Decidable.not_not, Classical.not_not] at hc10
                refine gc_exit ?_
                refine gk_then_exit ?_
                refine gk_then_exit ?_
                refine gk_block_hit ?_
                refine gk_then (hK127 _ _ ?_)
                refine gc_region ?_
                refine g_v (.free rfl) rfl rfl (qt_move rfl rfl) ?_
                refine g_v (.free rfl) rfl rfl (qt_move rfl rfl) ?_
                refine g_op (.free rfl) fun K143 hK143 => ?_
                refine go_slice1 rfl rfl rfl rfl Try.underlying22 ?_
                intro B142
                refine hK143 _ _ ?_
                refine g_op (.free rfl) fun K145 hK145 => ?_
                refine go_append (n := 8) (m := 10) rfl rfl rfl Try.underlying22 rfl rfl rfl rfl (by omega) ?_
                intro va144 vc144
                refine hK145 _ _ ?_
                refine g_v (.free rfl) rfl rfl (qt_assign rfl rfl) ?_
                refine g_nil ?_
                refine gk_block ?_
                refine gk_then (hK124 _ _ ?_)
                refine gc_region ?_
                refine g_v (.free rfl) rfl rfl (qt_move rfl rfl) ?_
                refine g_v (.free rfl) rfl rfl (qt_add rfl rfl rfl (by omega)) ?_
                refine g_v (.free rfl) rfl rfl (qt_assign rfl rfl) ?_
                refine g_nil ?_
                obtain rfl : l = (twR c).length := by omega
                rw [twC_t hc9]
                simp only [tabTo_succ]
                refine gk_then (gk_take 9 ?_)
                refine gk_sub ?hs_146 (hKL121 (k + 1, _, _) ?hi_146 ?hm_146)
                case hs_146 => exact (sub_cons rfl (sub_cons rfl (sub_cons rfl (sub_cons rfl (sub_cons rfl (sub_cons rfl (sub_cons rfl (sub_cons rfl (sub_cons rfl (sub_cons rfl (sub_cons rfl (sub_cons rfl (sub_cons rfl (sub_cons rfl (sub_cons rfl sub_nil)))))))))))))))
                case hi_146 => omega
                case hm_146 => omega
            · try simp only [decide_eq_true_eq, decide_eq_false_iff_not, Bool.not_eq_true', Bool.not_eq_false', Bool.not_eq_eq_eq_not, Bool.not_true, Bool.not_false, ne_eq, Decidable.not_not, Classical.not_not] at hc9
              refine gc_skip ?_
              refine gk_then (hK127 _ _ ?_)
              refine gc_region ?_
              refine g_v (.free rfl) rfl rfl (qt_move rfl rfl) ?_
              refine g_v (.free rfl) rfl rfl (qt_move rfl rfl) ?_
              refine g_op (.free rfl) fun K148 hK148 => ?_
              refine go_slice1 rfl rfl rfl rfl Try.underlying22 ?_
              intro B147
              refine hK148 _ _ ?_
              refine g_op (.free rfl) fun K150 hK150 => ?_
              refine go_append (n := 8) (m := 9) rfl rfl rfl Try.underlying22 rfl rfl rfl rfl (by omega) ?_
              intro va149 vc149
              refine hK150 _ _ ?_
              refine g_v (.free rfl) rfl rfl (qt_assign rfl rfl) ?_
              refine g_nil ?_
              refine gk_block ?_
              refine gk_then (hK124 _ _ ?_)
              refine gc_region ?_
              refine g_v (.free rfl) rfl rfl (qt_move rfl rfl) ?_
              refine g_v (.free rfl) rfl rfl (qt_add rfl rfl rfl (by omega)) ?_
              refine g_v (.free rfl) rfl rfl (qt_assign rfl rfl) ?_
              refine g_nil ?_
              rw [twC_f hc9]
              simp only [tabTo_succ]
              refine gk_then (gk_take 9 ?_)
              refine gk_sub ?hs_151 (hKL121 (k + 1, _, _) ?hi_151 ?hm_151)
              case hs_151 => exact (sub_cons rfl (sub_cons rfl (sub_cons rfl (sub_cons rfl (sub_cons rfl (sub_cons rfl (sub_cons rfl (sub_cons rfl (sub_cons rfl (sub_cons rfl (sub_cons rfl (sub_cons rfl (sub_cons rfl (sub_cons rfl (sub_cons rfl sub_nil)))))))))))))))
              case hi_151 => omega
              case hm_151 => omega
          · try simp only [decide_eq_true_eq, decide_eq_false_iff_not, Bool.not_eq_true', Bool.not_eq_false', Bool.not_eq_eq_eq_not, Bool.not_true, Bool.not_false, ne_eq, Decidable.not_not, Classical.not_not] at hc8
            refine gc_exit ?_
            refine gk_then_exit ?_
            refine gk_then_exit ?_
            refine gk_block_hit ?_
            refine gk_then (hK119 _ _ ?_)
            refine gc_region ?_
            refine g_v (.free rfl) rfl rfl (qt_field (z := 0) (off := 4) rfl rfl Try.underlying29 rfl (by kernel_rfl) rfl) ?_
            refine g_v (.free rfl) rfl rfl (qt_loadB (n := 7) rfl rfl Try.underlying23 rfl rfl rfl) ?_
            refine g_v (.free rfl) rfl rfl (qt_move rfl rfl) ?_
            refine g_op (.free rfl) fun K153 hK153 => ?_
            refine go_sliceR1 (m := 8) rfl rfl rfl rfl Try.underlying23 rfl ?_
            intro B152
            refine hK153 _ _ ?_
            refine g_op (.free rfl) fun K155 hK155 => ?_
            refine go_appendRow (n := 6) (m := 8) (m' := 7) rfl rfl rfl Try.underlying23 rfl rfl rfl rfl rfl (by omega) ?_
            intro va154 vc154
            refine hK155 _ _ ?_
            refine g_v (.free rfl) rfl rfl (qt_field (z := 0) (off := 4) rfl rfl Try.underlying29 rfl (by kernel_rfl) rfl) ?_
            refine g_op (.free rfl) fun K156 hK156 => ?_
            refine go_storeB (n := 7) rfl rfl rfl rfl (by kernel_rfl) rfl rfl rfl (by first | decide | simp) ?_
            refine hK156 _ _ ?_
            refine g_nil ?_
            refine gk_block ?_
            refine gk_then (hK115 _ _ ?_)
            refine gc_region ?_
            refine g_v (.free rfl) rfl rfl (qt_move rfl rfl) ?_
            refine g_v (.free rfl) rfl rfl (qt_add rfl rfl rfl (by omega)) ?_
            refine g_v (.free rfl) rfl rfl (qt_assign rfl rfl) ?_
            refine g_nil ?_
            obtain rfl : k = (twR c).length := by omega
            have ht : tabTo (twC c p) (twR c).length = twRow c p := rfl
            simp only [ht, rowsTo_succ]
            refine gk_then (gk_take 8 ?_)
            refine gk_sub ?hs_157 (hKL112 (p + 1, _, _, _) ?hi_157 ?hm_157)
            case hs_157 => exact (sub_cons rfl (sub_cons rfl (sub_cons rfl (sub_cons rfl (sub_cons rfl (sub_cons rfl (sub_cons rfl (sub_cons rfl (sub_cons rfl (sub_cons rfl (sub_cons rfl (sub_cons rfl sub_nil))))))))))))
            case hi_157 => exact ⟨by omega, .inr (by omega)⟩
            case hm_157 => omega
        · try simp only [decide_eq_true_eq, decide_eq_false_iff_not, Bool.not_eq_true', Bool.not_eq_false', Bool.not_eq_eq_eq_not, Bool.not_true, Bool.not_false, ne_eq, Decidable.not_not, Classical.not_not] at hc7
          refine gc_exit ?_
          refine gk_then_exit ?_
          refine gk_then_exit ?_
          refine gk_block_hit ?_
          refine gk_then (hK110 _ _ ?_)
          refine gc_seq fun K158 hK158 => ?_
          refine gc_region ?_
          refine g_v (.free rfl) rfl rfl (qt_loadS (n := 7) rfl rfl Try.underlying29 rfl (by kernel_rfl) rfl) ?_
          refine g_v (.free rfl) rfl rfl (qt_move rfl rfl) ?_
          refine g_op (.free rfl) fun K159 hK159 => ?_
          refine go_storeS (n := 1) rfl rfl rfl rfl (by kernel_rfl) rfl rfl rfl ?_
          refine hK159 _ _ ?_
          refine g_v (.free rfl) rfl rfl (qt_assign rfl rfl) ?_
          refine g_nil ?_
          refine gk_then (hK158 _ _ ?_)
          refine gc_ret ?_
          refine ret_SI (n := 1) rfl rfl rfl Try.underlying29 rfl (by kernel_rfl) rfl (fun w M => ?_)
          obtain rfl : p = 0 := by omega
          have hz : twRows c = rowsTo (twRow c) 0 := (if_neg (by omega)).trans rfl
          rw [← hz] at M ⊢
          exact ⟨_, _, rfl, ownC_star (c := twM c) (mem_pick (n := 6) (mem_pick (n := 6) (mem_pick (n := 6) (mem_pick (n := 6) (M) rfl) rfl) rfl) rfl).2, M.1⟩
      · try simp only [decide_eq_true_eq, decide_eq_false_iff_not, Bool.not_eq_true', Bool.not_eq_false', Bool.not_eq_eq_eq_not, Bool.not_true, Bool.not_false, ne_eq, Decidable.not_not, Classical.not_not] at hs28_4
        refine g_skip (.not _ _ _ _ rfl rfl rfl rfl) rfl rfl ?_
        refine g_skip (.not _ _ _ _ rfl rfl rfl rfl) rfl rfl ?_
        refine g_skip (.not _ _ _ _ rfl rfl rfl rfl) rfl rfl ?_
        refine g_v (.free rfl) rfl rfl (qt_pick_f rfl rfl rfl) ?_
        refine g_nil ?_
        refine gk_then (hK114 _ _ ?_)
        refine gc_cond_f rfl ?_
        refine gc_exit ?_
        refine gk_then_exit ?_
        refine gk_then_exit ?_
        refine gk_block_hit ?_
        refine gk_then (hK110 _ _ ?_)
        refine gc_seq fun K160 hK160 => ?_
        refine gc_region ?_
        refine g_v (.free rfl) rfl rfl (qt_loadS (n := 7) rfl rfl Try.underlying29 rfl (by kernel_rfl) rfl) ?_
        refine g_v (.free rfl) rfl rfl (qt_move rfl rfl) ?_
        refine g_op (.free rfl) fun K161 hK161 => ?_
        refine go_storeS (n := 1) rfl rfl rfl rfl (by kernel_rfl) rfl rfl rfl ?_
        refine hK161 _ _ ?_
        refine g_v (.free rfl) rfl rfl (qt_assign rfl rfl) ?_
        refine g_nil ?_
        refine gk_then (hK160 _ _ ?_)
        refine gc_ret ?_
        refine ret_SI (n := 1) rfl rfl rfl Try.underlying29 rfl (by kernel_rfl) rfl (fun w M => ?_)
        obtain rfl : p = (twR c).length := by omega
        by_cases h40 : (twR c).length ≤ 40
        · have hz : twRows c = rowsTo (twRow c) (twR c).length := if_pos h40
          rw [← hz] at M ⊢
          exact ⟨_, _, rfl, ownC_star (c := twM c) (mem_pick (n := 6) (mem_pick (n := 6) (mem_pick (n := 6) (mem_pick (n := 6) (M) rfl) rfl) rfl) rfl).2, M.1⟩
        · have hp0 : (twR c).length = 0 := by omega
          exact absurd hp0 (by omega)

end Go.Proofs.Ytelbjdbefaffpaa
