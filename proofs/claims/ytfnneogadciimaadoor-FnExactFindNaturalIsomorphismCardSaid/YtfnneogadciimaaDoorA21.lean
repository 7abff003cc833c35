import Derived.Test.YtfnneogadciimaaDoorA19
import Derived.Test.YtfnneogadciimaaDoorA20
import Derived.Test.YtfnneogadciimaaDoorA17
set_option linter.unusedSimpArgs false
set_option linter.unusedVariables false
set_option linter.unusedSectionVars false
namespace Go.Proofs.YtfnneogadciimaaDoor
open Go.RowKit
theorem rdF_all {w : World} {F : Fct} {s1 s2 s3 s4 t1 t2 t3 t4 vo va : Value} (h : RdF w (.agg #[.int .i64 F.S.ob, s1, s2, s3, s4, .int .i64 F.T.ob, t1, t2, t3, t4, vo, va]) F) : Rd w s1 F.S.s ∧ Rd w s2 F.S.t ∧ Rd w s3 F.S.e ∧ Rd2 w s4 F.S.m ∧ Rd w t1 F.T.s ∧ Rd w t2 F.T.t ∧ Rd w t3 F.T.e ∧ Rd2 w t4 F.T.m ∧ Rd w vo F.o ∧ Rd w va F.a := by
  obtain ⟨y1, y2, y3, y4, y5, y6, y7, y8, y9, y10, hv, h1, h2, h3, h4⟩ := h
  obtain ⟨rfl, rfl, rfl, rfl, rfl, rfl, rfl, rfl, rfl, rfl⟩ := agg12 hv
  exact ⟨h1.1, h1.2.1, h1.2.2.1, h1.2.2.2, h2.1, h2.2.1, h2.2.2.1, h2.2.2.2, h3, h4⟩
theorem sqB_of {F G : Fct} {xs : List Int} (hF : IsFct F) (hG : IsFct G) (hp : ParP F G) (lc : (xs.length : Int) = F.S.ob) {a : Int} (a0 : 0 ≤ a) (a1 : a < F.S.s.length) (p0 : 0 ≤ at0 xs (at0 F.S.s a)) (p1 : at0 xs (at0 F.S.s a) < F.T.s.length) (q0 : 0 ≤ at0 xs (at0 F.S.t a)) (q1 : at0 xs (at0 F.S.t a) < F.T.s.length) : SqB F G xs a := by
  have hS := (isCat_of hF.cs).toShapeP; have hT := (isCat_of hF.ct).toShapeP
  have hA := arrP hS a0 a1
  have e1 := hA.s0; have e2 := hA.s1; have e3 := hA.t0; have e4 := hA.t1; have e5 := hA.ft
  have el := hS.el; have ml := hT.ml; have lf := hF.la; have lg := hG.la
  rw [← hp.1] at lg
  have hf := allP_i hF.ia a0 (by omega)
  have hg := allP_i hG.ia a0 (by omega)
  rw [← hp.2] at hg
  have hB := arrP hT hf.1 hf.2; have hC := arrP hT p0 p1
  exact ⟨e1, by omega, e3, by omega, p0, p1, q0, q1, hf.1, hf.2, hg.1, hg.2, a1, e5, by omega, by omega, by omega, hB.row, hC.row⟩
noncomputable def kapS (F : Fct) (iso : Bool) (p : Int) : Bool := !iso || decide (0 ≤ invN F.T p)
noncomputable def csP (F G : Fct) (iso : Bool) (c : List Int) (x : Nat) (p : Int) : Bool := bP (fitA F G c x p) && kapS F iso p
theorem choL_eq (F G : Fct) (iso : Bool) (c : List Int) (x : Nat) : choL F G (kapS F iso) c x = (homTo F.T (at0 F.o (x : Int)) (at0 G.o (x : Int)) F.T.s.length).filter (csP F G iso c x) := by
  unfold choL homK; rw [List.filter_filter]; rfl
noncomputable def outL (F G : Fct) (iso : Bool) (c : List Int) (x : Nat) (k : Nat) : List Int := ((homTo F.T (at0 F.o (x : Int)) (at0 G.o (x : Int)) F.T.s.length).take k).filter (csP F G iso c x)
theorem outL_len (F G : Fct) (iso : Bool) (c : List Int) (x k : Nat) : (outL F G iso c x k).length ≤ k := Nat.le_trans (List.length_filter_le ..) (by rw [List.length_take]; omega)
theorem outL_end {F G : Fct} {iso : Bool} {c : List Int} {x : Nat} : outL F G iso c x (homTo F.T (at0 F.o (x : Int)) (at0 G.o (x : Int)) F.T.s.length).length = choL F G (kapS F iso) c x := by unfold outL; rw [List.take_length, choL_eq]
theorem outL_t {F G : Fct} {iso : Bool} {c : List Int} {x k : Nat} (hk : k < (homTo F.T (at0 F.o (x : Int)) (at0 G.o (x : Int)) F.T.s.length).length) (h1 : fitA F G c x (at0 (homTo F.T (at0 F.o (x : Int)) (at0 G.o (x : Int)) F.T.s.length) (k : Int))) (h2 : kapS F iso (at0 (homTo F.T (at0 F.o (x : Int)) (at0 G.o (x : Int)) F.T.s.length) (k : Int)) = true) :
    outL F G iso c x k ++ [at0 (homTo F.T (at0 F.o (x : Int)) (at0 G.o (x : Int)) F.T.s.length) (k : Int)] = outL F G iso c x (k + 1) := by
  unfold outL; rw [take_one hk, List.filter_append, List.filter_cons, if_pos (by unfold csP; rw [bP_t h1, h2]; rfl)]; rfl
theorem outL_f {F G : Fct} {iso : Bool} {c : List Int} {x k : Nat} (hk : k < (homTo F.T (at0 F.o (x : Int)) (at0 G.o (x : Int)) F.T.s.length).length) (h : ¬ fitA F G c x (at0 (homTo F.T (at0 F.o (x : Int)) (at0 G.o (x : Int)) F.T.s.length) (k : Int)) ∨ kapS F iso (at0 (homTo F.T (at0 F.o (x : Int)) (at0 G.o (x : Int)) F.T.s.length) (k : Int)) = false) : outL F G iso c x k = outL F G iso c x (k + 1) := by
  unfold outL; rw [take_one hk, List.filter_append, List.filter_cons, if_neg (by
    unfold csP
    rcases h with h | h
    · rw [bP_f h]; simp
    · rw [h]; simp)]; simp
structure FitL (F G : Fct) (c : List Int) (x : Nat) (p : Int) (a : Nat) (g : Bool) : Prop where
  le : a ≤ F.S.s.length
  t : g = true → ∀ i : Nat, i < a → touchA F (x : Int) i → okA F G (c.set x p) i
  f : g = false → ¬ fitA F G c x p
theorem fitL_0 (F G : Fct) (c : List Int) (x : Nat) (p : Int) : FitL F G c x p 0 true := ⟨Nat.zero_le _, fun _ i hi => absurd hi (by omega), fun h => by cases h⟩
theorem fitL_t {F G : Fct} {c : List Int} {x : Nat} {p : Int} {a : Nat} (h : FitL F G c x p a true) (ha : a < F.S.s.length) (hk : touchA F (x : Int) a → okA F G (c.set x p) a) : FitL F G c x p (a + 1) true :=
  ⟨by omega, (fun _ i hi ht => by
    rcases Nat.lt_succ_iff_lt_or_eq.1 hi with hi | rfl
    · exact h.t rfl i hi ht
    · exact hk ht), fun h => by cases h⟩
theorem fitL_f {F G : Fct} {c : List Int} {x : Nat} {p : Int} {a : Nat} (ha : a < F.S.s.length) (h1 : touchA F (x : Int) a) (h2 : ¬ okA F G (c.set x p) a) : FitL F G c x p (a + 1) false :=
  ⟨by omega, (fun h => by cases h), fun _ h => h2 (h a ha h1)⟩
theorem fitL_end {F G : Fct} {c : List Int} {x : Nat} {p : Int} {a : Nat} (h : FitL F G c x p a true) (ha : ¬ a < F.S.s.length) : fitA F G c x p := fun i hi ht => h.t rfl i (by have := h.le; omega) ht
theorem fitL_b {F G : Fct} {c : List Int} {x : Nat} {p : Int} {a : Nat} (h : FitL F G c x p a true) (ha : a < F.S.s.length) (ht : touchA F (x : Int) a) (h1 : ¬ at0 (c.set x p) (at0 F.S.s (a : Int)) < 0) (h2 : ¬ at0 (c.set x p) (at0 F.S.t (a : Int)) < 0) : FitL F G c x p (a + 1) (bP (SqP F G (c.set x p) a)) := by
  by_cases hq : SqP F G (c.set x p) a
  · rw [bP_t hq]; exact fitL_t h ha fun _ => .inr (.inr hq)
  · rw [bP_f hq]; exact fitL_f ha ht (by rintro (h | h | h) <;> contradiction)
theorem fitL_end' {F G : Fct} {c : List Int} {x : Nat} {p : Int} {a : Nat} {g : Bool} (h : FitL F G c x p a g) (hg : g = true) (ha : ¬ a < F.S.s.length) : fitA F G c x p := by subst hg; exact fitL_end h ha
theorem kapS_f {F : Fct} {iso : Bool} {p : Int} (h : iso = true) (h' : invN F.T p < 0) : kapS F iso p = false := by unfold kapS; rw [h, decide_eq_false (by omega)]; rfl
theorem kapS_t {F : Fct} {iso : Bool} {p : Int} (h' : 0 ≤ invN F.T p) : kapS F iso p = true := by unfold kapS; rw [decide_eq_true h']; simp
theorem kapS_n {F : Fct} {iso : Bool} {p : Int} (h : iso = false) : kapS F iso p = true := by unfold kapS; rw [h]; rfl
def InC7 (F : Fct) (c : List Int) : Prop := (c.length : Int) = F.S.ob ∧ ∀ i : Nat, i < c.length → at0 c (i : Int) < F.T.s.length
theorem inC_set {F : Fct} {c : List Int} (h : InC7 F c) {x : Nat} {p : Int} (hp : p < F.T.s.length) : InC7 F (c.set x p) := ⟨by rw [List.length_set]; exact h.1, fun i hi => by
  rw [List.length_set] at hi
  by_cases hx : x < c.length
  · rw [at0_set hx (by omega)]; split
    · exact hp
    · exact h.2 i hi
  · rw [List.set_eq_of_length_le (by omega)]; exact h.2 i hi⟩
theorem inC_at {F : Fct} {c : List Int} (h : InC7 F c) {i : Int} (i0 : 0 ≤ i) (i1 : i < c.length) : at0 c i < F.T.s.length := by
  obtain ⟨j, rfl⟩ := Int.eq_ofNat_of_zero_le i0
  exact h.2 j (by omega)
set_option maxHeartbeats 4000000 in
set_option maxRecDepth 100000 in
theorem specCho_any (w : World) (B : Nat) (vx1 vx2 vx3 vx4 vx5 vx6 vx7 vx8 vx9 vx10 : Option Addr) (vk1 vk2 vk3 vk4 vk5 vk6 vk7 vk8 vk9 vk10 : Nat) (ux1 ux2 ux3 ux4 ux5 ux6 ux7 ux8 ux9 ux10 : Option Addr) (uk1 uk2 uk3 uk4 uk5 uk6 uk7 uk8 uk9 uk10 : Nat) (F G : Fct) (iso : Bool) (mo : Int) (fv cv : Value) (c : List Int) (x : Nat) (h : RdF w (.agg #[.int .i64 F.S.ob, .slice vx1 F.S.s.length vk1, .slice vx2 F.S.t.length vk2, .slice vx3 F.S.e.length vk3, .slice vx4 F.S.m.length vk4, .int .i64 F.T.ob, .slice vx5 F.T.s.length vk5, .slice vx6 F.T.t.length vk6, .slice vx7 F.T.e.length vk7, .slice vx8 F.T.m.length vk8, .slice vx9 F.o.length vk9, .slice vx10 F.a.length vk10]) F) (e : RdF w (.agg #[.int .i64 G.S.ob, .slice ux1 G.S.s.length uk1, .slice ux2 G.S.t.length uk2, .slice ux3 G.S.e.length uk3, .slice ux4 G.S.m.length uk4, .int .i64 G.T.ob, .slice ux5 G.T.s.length uk5, .slice ux6 G.T.t.length uk6, .slice ux7 G.T.e.length uk7, .slice ux8 G.T.m.length uk8, .slice ux9 G.o.length uk9, .slice ux10 G.a.length uk10]) G) (hbB : BxV w B 106 (.agg #[.int .i64 F.S.ob, .slice vx1 F.S.s.length vk1, .slice vx2 F.S.t.length vk2, .slice vx3 F.S.e.length vk3, .slice vx4 F.S.m.length vk4, .int .i64 F.T.ob, .slice vx5 F.T.s.length vk5, .slice vx6 F.T.t.length vk6, .slice vx7 F.T.e.length vk7, .slice vx8 F.T.m.length vk8, .slice vx9 F.o.length vk9, .slice vx10 F.a.length vk10, .int .i64 G.S.ob, .slice ux1 G.S.s.length uk1, .slice ux2 G.S.t.length uk2, .slice ux3 G.S.e.length uk3, .slice ux4 G.S.m.length uk4, .int .i64 G.T.ob, .slice ux5 G.T.s.length uk5, .slice ux6 G.T.t.length uk6, .slice ux7 G.T.e.length uk7, .slice ux8 G.T.m.length uk8, .slice ux9 G.o.length uk9, .slice ux10 G.a.length uk10, .bool iso, .int .i64 mo, fv])) (hc : Rd w cv c) (hF : IsFct F) (hG : IsFct G) (hp : ParP F G) (hi : InC7 F c) (hx : x < c.length) :
    Calls Tryd.prog 109 #[.pointer (some ⟨B, 0, none⟩), cv, .int .i64 ((x : Int))] w (RetL w (choL F G (kapS F iso) c x)) := by
  obtain ⟨cva, cvc, rfl⟩ := rd_form hc
  obtain ⟨h1, h2, h3, h4, h5, h6, h7, h8, h9, h10⟩ := rdF_all h
  obtain ⟨e1, e2, e3, e4, e5, e6, e7, e8, e9, e10⟩ := rdF_all e
  have hS := (isCat_of hF.cs).toShapeP; have hTs := (isCat_of hF.ct).toShapeP
  have hlc := hi.1; have lo := hF.lo; have lg := hG.lo; have la := hF.la; have s8 := hS.ob8; have t40 := hTs.n40; have n40 := hS.n40; have tl := hS.tl
  have pg : G.S.ob = F.S.ob := by rw [hp.1]
  have hhl := homTo_len F.T (at0 F.o (x : Int)) (at0 G.o (x : Int)) F.T.s.length
  go_enter Tryd.func109, Tryd.ntmps109
  refine gc_enter (N := 141) rfl (look_cons (k := 0) rfl (look_cons (k := 1) rfl (look_cons (k := 2) rfl (look_nil _)))) ?_
  refine gc_seq fun K1 hK1 => ?_
  refine gc_region ?_
  refine g_v (.free rfl) rfl rfl (qt_assign rfl rfl) ?_
  refine g_nil ?_
  refine gk_then (hK1 _ _ ?_)
  refine gc_seq fun K2 hK2 => ?_
  try simp only [List.nil_append, List.cons_append, List.append_assoc, List.set_cons_succ, List.set_cons_zero]
  refine gc_cut ([(0, _), (1, _), (2, _), (6, _)] : Env) (fun s : Nat × Nat => (fun (B7 : Nat) (B8 : Nat) => ([(7, .pointer (some ⟨B7, 0, none⟩)), (8, .pointer (some ⟨B8, 0, none⟩))] : Env)) s.1 s.2) (fun s : Nat × Nat => (fun (B7 : Nat) (B8 : Nat) => ([] : List (Nat × Itm))) s.1 s.2) (fun s : Nat × Nat => (fun (B7 : Nat) (B8 : Nat) => ([bxI B7 30 [.int .i64 F.S.ob, .slice vx1 F.S.s.length vk1, .slice vx2 F.S.t.length vk2, .slice vx3 F.S.e.length vk3, .slice vx4 F.S.m.length vk4], bxI B8 30 [.int .i64 F.T.ob, .slice vx5 F.T.s.length vk5, .slice vx6 F.T.t.length vk6, .slice vx7 F.T.e.length vk7, .slice vx8 F.T.m.length vk8]] : List Itm)) s.1 s.2) (sub_cons rfl (sub_cons rfl (sub_cons rfl (sub_cons rfl sub_nil)))) ?_ (fun HJ3 => ?_)
  · rintro ⟨B7, B8⟩
    simp only [updL, List.foldl_cons, List.foldl_nil, List.set_cons_succ, List.set_cons_zero, List.cons_append, List.nil_append]
    refine gk_then (hK2 _ _ ?_)
    refine gc_seq fun K4 hK4 => ?_
    try simp only [List.nil_append, List.cons_append, List.append_assoc, List.set_cons_succ, List.set_cons_zero]
    refine ga_start _ (fun w M => M) ?_
    refine ga_v 0 rfl (by kernel_rfl) (by kernel_rfl) (by kernel_rfl) (.free rfl) rfl rfl (qt_loadS (n := 1) rfl rfl Tryd.underlying30 rfl (by kernel_rfl) rfl) (fun _ _ _ h => h) ?_
    refine ga_v 1 rfl (by kernel_rfl) (by kernel_rfl) (by kernel_rfl) (.free rfl) rfl rfl (qt_move rfl rfl) (fun _ _ _ h => h) ?_
    refine ga_v 2 rfl (by kernel_rfl) (by kernel_rfl) (by kernel_rfl) (.free rfl) rfl rfl (qt_nilP rfl rfl) (fun _ _ _ h => h) ?_
    refine ga_v 3 rfl (by kernel_rfl) (by kernel_rfl) (by kernel_rfl) (.free rfl) rfl rfl (qt_field (z := 11) (off := 0) rfl rfl Tryd.underlying106 rfl (by kernel_rfl) rfl) (fun _ _ _ h => h) ?_
    refine ga_v 4 rfl (by kernel_rfl) (by kernel_rfl) (by kernel_rfl) (.free rfl) rfl rfl (qt_field (z := 0) (off := 10) rfl rfl Tryd.underlying45 rfl (by kernel_rfl) rfl) (fun _ _ _ h => h) ?_
    refine ga_v 5 rfl (by kernel_rfl) (by kernel_rfl) (by kernel_rfl) (.free rfl) rfl rfl (qt_loadRB hbB rfl rfl Tryd.underlying22 rfl rfl) (fun _ _ _ h => h) ?_
    refine ga_v 6 rfl (by kernel_rfl) (by kernel_rfl) (by kernel_rfl) (.free rfl) rfl rfl (qt_move rfl rfl) (fun _ _ _ h => h) ?_
    refine ga_v 7 rfl (by kernel_rfl) (by kernel_rfl) (by kernel_rfl) (.free rfl) rfl rfl (qt_index rfl rfl rfl ulE1 szE1 (fun w M => lenA_rd h9) (by omega) (by omega)) (fun _ _ _ h => h) ?_
    refine ga_v 8 rfl (by kernel_rfl) (by kernel_rfl) (by kernel_rfl) (.free rfl) rfl rfl (qt_load1 rfl rfl Tryd.underlying2 rfl (fun w M => mem_rd M h9) (by omega) (by omega)) (fun _ _ _ h => h) ?_
    refine ga_v 9 rfl (by kernel_rfl) (by kernel_rfl) (by kernel_rfl) (.free rfl) rfl rfl (qt_move rfl rfl) (fun _ _ _ h => h) ?_
    refine ga_v 10 rfl (by kernel_rfl) (by kernel_rfl) (by kernel_rfl) (.free rfl) rfl rfl (qt_nilP rfl rfl) (fun _ _ _ h => h) ?_
    refine ga_v 11 rfl (by kernel_rfl) (by kernel_rfl) (by kernel_rfl) (.free rfl) rfl rfl (qt_field (z := 11) (off := 12) rfl rfl Tryd.underlying106 rfl (by kernel_rfl) rfl) (fun _ _ _ h => h) ?_
    refine ga_v 12 rfl (by kernel_rfl) (by kernel_rfl) (by kernel_rfl) (.free rfl) rfl rfl (qt_field (z := 0) (off := 10) rfl rfl Tryd.underlying45 rfl (by kernel_rfl) rfl) (fun _ _ _ h => h) ?_
    refine ga_v 13 rfl (by kernel_rfl) (by kernel_rfl) (by kernel_rfl) (.free rfl) rfl rfl (qt_loadRB hbB rfl rfl Tryd.underlying22 rfl rfl) (fun _ _ _ h => h) ?_
    refine ga_v 14 rfl (by kernel_rfl) (by kernel_rfl) (by kernel_rfl) (.free rfl) rfl rfl (qt_move rfl rfl) (fun _ _ _ h => h) ?_
    refine ga_v 15 rfl (by kernel_rfl) (by kernel_rfl) (by kernel_rfl) (.free rfl) rfl rfl (qt_index rfl rfl rfl ulE1 szE1 (fun w M => lenA_rd e9) (by omega) (by omega)) (fun _ _ _ h => h) ?_
    refine ga_v 16 rfl (by kernel_rfl) (by kernel_rfl) (by kernel_rfl) (.free rfl) rfl rfl (qt_load1 rfl rfl Tryd.underlying2 rfl (fun w M => mem_rd M e9) (by omega) (by omega)) (fun _ _ _ h => h) ?_
    refine ga_op 17 (by kernel_rfl) rfl (.free rfl) fun K6 hK6 => ?_
    refine go_callL rfl rfl rfl Tryd.func111 rfl (by decide) rfl (fun w M => specHom_any w _ _ _ _ (rdC_mk (mem_rd M h5) (mem_rd M h6) (mem_rd M h7) (mem_rd2 M h8)) (hTs)) ?_
    intro va5 vc5
    refine hK6 _ _ (fun w M => (mem_take 2 M :)) ?_
    refine ga_v 18 rfl (by kernel_rfl) (by kernel_rfl) (by kernel_rfl) (.free rfl) rfl rfl (qt_assign rfl rfl) (fun _ _ _ h => h) ?_
    refine ga_done (by kernel_rfl) ?_
    refine gk_then (hK4 _ _ ?_)
    refine gc_seq fun K7 hK7 => ?_
    refine gc_region ?_
    refine g_op (.free rfl) fun K9 hK9 => ?_
    refine go_slice0 rfl rfl rfl Tryd.underlying22 ?_
    intro B8
    refine hK9 _ _ ?_
    refine g_v (.free rfl) rfl rfl (qt_assign rfl rfl) ?_
    refine g_nil ?_
    refine gk_then (hK7 _ _ ?_)
    refine gc_seq fun K10 hK10 => ?_
    refine gc_seq fun K11 hK11 => ?_
    refine gc_region ?_
    refine g_v (.free rfl) rfl rfl (qt_assign rfl rfl) ?_
    refine g_nil ?_
    refine gk_then (hK11 _ _ ?_)
    refine gc_block ?_
    try simp only [List.nil_append, List.cons_append, List.append_assoc, List.set_cons_succ, List.set_cons_zero]
    refine gc_loop ([(0, _), (1, _), (2, _), (6, _), (7, _), (8, _), (9, _)] : Env) (fun s : Nat × (Option Addr) × Nat => (fun (k : Nat) (oa : Option Addr) (oq : Nat) => ([(10, .slice oa (outL F G iso c x k).length oq), (11, .int .i64 (k : Int))] : Env)) s.1 s.2.1 s.2.2) (fun s : Nat × (Option Addr) × Nat => (fun (k : Nat) (oa : Option Addr) (oq : Nat) => ([(3, own1I (.slice oa (outL F G iso c x k).length oq) (outL F G iso c x k))] : List (Nat × Itm))) s.1 s.2.1 s.2.2) (fun s : Nat × (Option Addr) × Nat => (fun (k : Nat) (oa : Option Addr) (oq : Nat) => k ≤ (homTo F.T (at0 F.o (x : Int)) (at0 G.o (x : Int)) F.T.s.length).length) s.1 s.2.1 s.2.2) (fun s : Nat × (Option Addr) × Nat => (fun (k : Nat) (oa : Option Addr) (oq : Nat) => (homTo F.T (at0 F.o (x : Int)) (at0 G.o (x : Int)) F.T.s.length).length - k) s.1 s.2.1 s.2.2) (0, _, _) (sub_cons rfl (sub_cons rfl (sub_cons rfl (sub_cons rfl (sub_cons rfl (sub_cons rfl (sub_cons rfl (sub_cons rfl (sub_cons rfl sub_nil))))))))) rfl (Nat.zero_le _) ?_
    rintro ⟨k, oa, oq⟩ hinv KL12 hKL12
    simp only [updL, List.foldl_cons, List.foldl_nil, List.set_cons_succ, List.set_cons_zero, List.cons_append, List.nil_append] at hinv hKL12 ⊢
    have hk := hinv
    have hol := outL_len F G iso c x k
    refine gc_seq fun K13 hK13 => ?_
    refine gc_seq fun K14 hK14 => ?_
    refine gc_region ?_
    refine g_v (.free rfl) rfl rfl (qt_move rfl rfl) ?_
    refine g_v (.free rfl) rfl rfl (qt_move rfl rfl) ?_
    refine g_v (.free rfl) rfl rfl (qt_len rfl rfl ulE1 (fun w M => lenV_own1 (n := 2) rfl M)) ?_
    refine g_v (.free rfl) rfl rfl (qt_lss rfl rfl rfl) ?_
    refine g_nil ?_
    refine gk_then (hK14 _ _ ?_)
    refine gc_cond rfl (fun hc0 => ?_) (fun hc0 => ?_)
    · try simp only [decide_eq_true_eq, decide_eq_false_iff_not, Bool.not_eq_true', Bool.not_eq_false', Bool.not_eq_eq_eq_not, Bool.not_true, Bool.not_false, ne_eq, Decidable.not_not, Classical.not_not] at hc0
      refine gc_skip ?_
      refine gk_then (hK13 _ _ ?_)
      refine gc_seq fun K15 hK15 => ?_
      refine gc_block ?_
      refine gc_seq fun K16 hK16 => ?_
      refine gc_seq fun K17 hK17 => ?_
      have hpp := homTo_at (c := F.T) (x := at0 F.o (x : Int)) (y := at0 G.o (x : Int)) (n := F.T.s.length) (k := k) (by omega)
      have hp0 := hpp.1; have hp1 := hpp.2.1
      refine gc_draw (by kernel_rfl) ?_
      refine gd_v (.free rfl) rfl rfl (qt_move rfl rfl) ?_
      refine gd_v (.free rfl) rfl rfl (qt_nilP rfl rfl) ?_
      refine gd_v (.free rfl) rfl rfl (qt_field (z := 0) (off := 24) rfl rfl Tryd.underlying106 rfl (by kernel_rfl) rfl) ?_
      refine gd_v (.free rfl) rfl rfl (qt_loadRB hbB rfl rfl Tryd.underlying4 rfl rfl) ?_
      refine gd_splitv (.free rfl) rfl rfl (qt_move rfl rfl) (fun hs7_4 => ?_) (fun hs7_4 => ?_)
      · try simp only [decide_eq_true_eq, decide_eq_false_iff_not, Bool.not_eq_true', Bool.not_eq_false', Bool.not_eq_eq_eq_not, Bool.not_true, Bool.not_false, ne_eq, Decidable.not_not, Classical.not_not] at hs7_4
        refine gd_v (.held _ _ _ rfl rfl rfl) rfl rfl (qt_loadS (n := 1) rfl rfl Tryd.underlying30 rfl (by kernel_rfl) rfl) ?_
        refine gd_v (.held _ _ _ rfl rfl rfl) rfl rfl (qt_move rfl rfl) ?_
        refine gd_v (.held _ _ _ rfl rfl rfl) rfl rfl (qt_move rfl rfl) ?_
        refine gd_v (.held _ _ _ rfl rfl rfl) rfl rfl (qt_index rfl rfl rfl ulE1 szE1 (fun w M => lenA_own1 (n := 2) rfl M) (by omega) (by omega)) ?_
        refine gd_v (.held _ _ _ rfl rfl rfl) rfl rfl (qt_load1 rfl rfl Tryd.underlying2 rfl (fun w M => (mem_own1 (n := 2) M rfl).rd) (by omega) (by omega)) ?_
        refine gd_q (.held _ _ _ rfl rfl rfl) rfl rfl (qt_call rfl Tryd.func126 rfl (by decide) rfl (fun w M => specInv5_any w _ _ _ (rdC_mk (mem_rd M h5) (mem_rd M h6) (mem_rd M h7) (mem_rd2 M h8)) (isCat_of hF.ct) (by omega) (by omega))) ?_
        refine gd_v (.held _ _ _ rfl rfl rfl) rfl rfl (qt_lss rfl rfl rfl) ?_
        refine gd_v (.free rfl) rfl rfl (qt_pick_t rfl rfl rfl) ?_
        refine gd_nil ?_
        refine gk_then (hK17 _ _ ?_)
        refine gc_cond rfl (fun hc1 => ?_) (fun hc1 => ?_)
        · try simp only [decide_eq_true_eq, decide_eq_false_iff_not, Bool.not_eq_true', Bool.not_eq_false', Bool.not_eq_eq_eq_not, Bool.not_true, Bool.not_false, ne_eq, Decidable.not_not, Classical.not_not] at hc1
          refine gc_exit ?_
          refine gk_then_exit ?_
          refine gk_block_hit ?_
          refine gk_then (hK15 _ _ ?_)
          refine gc_region ?_
          refine g_v (.free rfl) rfl rfl (qt_move rfl rfl) ?_
          refine g_v (.free rfl) rfl rfl (qt_add rfl rfl rfl (by omega)) ?_
          refine g_v (.free rfl) rfl rfl (qt_assign rfl rfl) ?_
          refine g_nil ?_
          first | rw [outL_f (by omega) (.inr (kapS_f (by assumption) (by omega)))] | rw [outL_f (by omega) (.inl (hL.f (by assumption)))] | simp only [outL_t (by omega) (fitL_end' hL (by assumption) (by omega)) hkt] | (exfalso; simp_all; done)
          refine gk_then (gk_take 4 ?_)
          refine gk_sub ?hs_18 (hKL12 (k + 1, _, _) ?hi_18 ?hm_18)
          case hs_18 => exact (sub_cons rfl (sub_cons rfl (sub_cons rfl (sub_cons rfl (sub_cons rfl (sub_cons rfl (sub_cons rfl (sub_cons rfl (sub_cons rfl sub_nil)))))))))
          case hi_18 => omega
          case hm_18 => omega
        · try simp only [decide_eq_true_eq, decide_eq_false_iff_not, Bool.not_eq_true', Bool.not_eq_false', Bool.not_eq_eq_eq_not, Bool.not_true, Bool.not_false, ne_eq, Decidable.not_not, Classical.not_not] at hc1
          refine gc_skip ?_
          refine gk_then (hK16 _ _ ?_)
          refine gc_seq fun K19 hK19 => ?_
          have hkt : kapS F iso (at0 (homTo F.T (at0 F.o (x : Int)) (at0 G.o (x : Int)) F.T.s.length) (k : Int)) = true := by first | exact kapS_n (by assumption) | exact kapS_t (by omega)
          refine gc_region ?_
          refine g_v (.free rfl) rfl rfl (qt_move rfl rfl) ?_
          refine g_op (.free rfl) fun K21 hK21 => ?_
          refine go_callL rfl rfl rfl Tryd.func84 rfl (by decide) rfl (fun w M => specOwn_any w _ _ (mem_rd M hc)) ?_
          intro va20 vc20
          refine hK21 _ _ ?_
          refine g_v (.free rfl) rfl rfl (qt_assign rfl rfl) ?_
          refine g_nil ?_
          refine gk_then (hK19 _ _ ?_)
          refine gc_seq fun K22 hK22 => ?_
          refine gc_region ?_
          refine g_v (.free rfl) rfl rfl (qt_move rfl rfl) ?_
          refine g_v (.free rfl) rfl rfl (qt_move rfl rfl) ?_
          refine g_v (.free rfl) rfl rfl (qt_move rfl rfl) ?_
          refine g_v (.free rfl) rfl rfl (qt_move rfl rfl) ?_
          refine g_v (.free rfl) rfl rfl (qt_index rfl rfl rfl ulE1 szE1 (fun w M => lenA_own1 (n := 2) rfl M) (by omega) (by omega)) ?_
          refine g_v (.free rfl) rfl rfl (qt_load1 rfl rfl Tryd.underlying2 rfl (fun w M => (mem_own1 (n := 2) M rfl).rd) (by omega) (by omega)) ?_
          refine g_v (.free rfl) rfl rfl (qt_index rfl rfl rfl ulE1 szE1 (fun w M => lenA_own1 (n := 4) rfl M) (by omega) (by omega)) ?_
          refine g_op (.free rfl) fun K23 hK23 => ?_
          refine go_store1 (n := 4) rfl rfl rfl rfl (by kernel_rfl) rfl (by omega) (by omega) ?_
          refine hK23 _ _ ?_
          refine g_nil ?_
          refine gk_then (hK22 _ _ ?_)
          refine gc_seq fun K24 hK24 => ?_
          simp only [Int.toNat_natCast]
          refine gc_region ?_
          refine g_v (.free rfl) rfl rfl (qt_assign rfl rfl) ?_
          refine g_nil ?_
          refine gk_then (hK24 _ _ ?_)
          refine gc_seq fun K25 hK25 => ?_
          refine gc_seq fun K26 hK26 => ?_
          refine gc_region ?_
          refine g_v (.free rfl) rfl rfl (qt_assign rfl rfl) ?_
          refine g_nil ?_
          refine gk_then (hK26 _ _ ?_)
          refine gc_block ?_
          try simp only [List.nil_append, List.cons_append, List.append_assoc, List.set_cons_succ, List.set_cons_zero]
          refine gc_loop ([(0, _), (1, _), (2, _), (6, _), (7, _), (8, _), (9, _), (10, _), (11, _), (12, _), (49, _), (64, _)] : Env) (fun s : Bool × Nat => (fun (g : Bool) (a : Nat) => ([(13, .bool g), (14, .int .i64 (a : Int))] : Env)) s.1 s.2) (fun s : Bool × Nat => (fun (g : Bool) (a : Nat) => ([] : List (Nat × Itm))) s.1 s.2) (fun s : Bool × Nat => (fun (g : Bool) (a : Nat) => FitL F G c x (at0 (homTo F.T (at0 F.o (x : Int)) (at0 G.o (x : Int)) F.T.s.length) (k : Int)) a g) s.1 s.2) (fun s : Bool × Nat => (fun (g : Bool) (a : Nat) => F.S.s.length - a) s.1 s.2) (true, 0) (sub_cons rfl (sub_cons rfl (sub_cons rfl (sub_cons rfl (sub_cons rfl (sub_cons rfl (sub_cons rfl (sub_cons rfl (sub_cons rfl (sub_cons rfl (sub_cons rfl (sub_cons rfl (sub_cons rfl (sub_cons rfl sub_nil)))))))))))))) rfl (fitL_0 _ _ _ _ _) ?_
          rintro ⟨g, a⟩ hinv KL27 hKL27
          simp only [updL, List.foldl_cons, List.foldl_nil, List.set_cons_succ, List.set_cons_zero, List.cons_append, List.nil_append] at hinv hKL27 ⊢
          have hL := hinv
          have hle := hL.le
          refine gc_seq fun K28 hK28 => ?_
          refine gc_seq fun K29 hK29 => ?_
          refine gc_region ?_
          refine g_v (.free rfl) rfl rfl (qt_move rfl rfl) ?_
          refine g_splitv (.free rfl) rfl rfl (qt_move rfl rfl) (fun hs12_1 => ?_) (fun hs12_1 => ?_)
          · try simp only [decide_eq_true_eq, decide_eq_false_iff_not, Bool.not_eq_true', Bool.not_eq_false', Bool.not_eq_eq_eq_not, Bool.not_true, Bool.not_false, ne_eq, Decidable.not_not, Classical.not_not] at hs12_1
            refine g_v (.held _ _ _ rfl rfl rfl) rfl rfl (qt_move rfl rfl) ?_
            refine g_v (.held _ _ _ rfl rfl rfl) rfl rfl (qt_move rfl rfl) ?_
            refine g_v (.held _ _ _ rfl rfl rfl) rfl rfl (qt_nilP rfl rfl) ?_
            refine g_v (.held _ _ _ rfl rfl rfl) rfl rfl (qt_field (z := 11) (off := 0) rfl rfl Tryd.underlying106 rfl (by kernel_rfl) rfl) ?_
            refine g_v (.held _ _ _ rfl rfl rfl) rfl rfl (qt_field (z := 0) (off := 11) rfl rfl Tryd.underlying45 rfl (by kernel_rfl) rfl) ?_
            refine g_v (.held _ _ _ rfl rfl rfl) rfl rfl (qt_loadRB hbB rfl rfl Tryd.underlying22 rfl rfl) ?_
            refine g_v (.held _ _ _ rfl rfl rfl) rfl rfl (qt_len rfl rfl ulE1 (fun w M => lenV_rd h10)) ?_
            refine g_v (.held _ _ _ rfl rfl rfl) rfl rfl (qt_lss rfl rfl rfl) ?_
            refine g_v (.free rfl) rfl rfl (qt_pick_t rfl rfl rfl) ?_
            refine g_nil ?_
            refine gk_then (hK29 _ _ ?_)
            refine gc_cond rfl (fun hc2 => ?_) (fun hc2 => ?_)
            · try simp only [decide_eq_true_eq, decide_eq_false_iff_not, Bool.not_eq_true', Bool.not_eq_false', Bool.not_eq_eq_eq_not, Bool.not_true, Bool.not_false, ne_eq, Decidable.not_not, Classical.not_not] at hc2
              refine gc_skip ?_
              refine gk_then (hK28 _ _ ?_)
              refine gc_seq fun K30 hK30 => ?_
              refine gc_block ?_
              refine gc_seq fun K31 hK31 => ?_
              have hst := allP_at hS.sa (k := a) (by omega)
              have htt := allP_at hS.ta (k := a) (by omega)
              have hst0 := hst.1; have hst1 := hst.2; have htt0 := htt.1; have htt1 := htt.2
              have hi2 := inC_set hi (x := x) (p := at0 (homTo F.T (at0 F.o (x : Int)) (at0 G.o (x : Int)) F.T.s.length) (k : Int)) hp1
              refine gc_draw (by kernel_rfl) ?_
              refine gd_v (.free rfl) rfl rfl (qt_field (z := 0) (off := 1) rfl rfl Tryd.underlying30 rfl (by kernel_rfl) rfl) ?_
              refine gd_v (.free rfl) rfl rfl (qt_loadB (n := 0) rfl rfl Tryd.underlying22 rfl rfl rfl) ?_
              refine gd_v (.free rfl) rfl rfl (qt_move rfl rfl) ?_
              refine gd_v (.free rfl) rfl rfl (qt_index rfl rfl rfl ulE1 szE1 (fun w M => lenA_rd h1) (by omega) (by omega)) ?_
              refine gd_v (.free rfl) rfl rfl (qt_load1 rfl rfl Tryd.underlying2 rfl (fun w M => mem_rd M h1) (by omega) (by omega)) ?_
              refine gd_v (.free rfl) rfl rfl (qt_field (z := 0) (off := 2) rfl rfl Tryd.underlying30 rfl (by kernel_rfl) rfl) ?_
              refine gd_v (.free rfl) rfl rfl (qt_loadB (n := 0) rfl rfl Tryd.underlying22 rfl rfl rfl) ?_
              refine gd_v (.free rfl) rfl rfl (qt_move rfl rfl) ?_
              refine gd_v (.free rfl) rfl rfl (qt_index rfl rfl rfl ulE1 szE1 (fun w M => lenA_rd h2) (by omega) (by omega)) ?_
              refine gd_v (.free rfl) rfl rfl (qt_load1 rfl rfl Tryd.underlying2 rfl (fun w M => mem_rd M h2) (by omega) (by omega)) ?_
              refine gd_v (.free rfl) rfl rfl (qt_assign rfl rfl) ?_
              refine gd_v (.free rfl) rfl rfl (qt_assign rfl rfl) ?_
              refine gd_nil ?_
              refine gk_then (hK31 _ _ ?_)
              refine gc_draw (by kernel_rfl) ?_
              refine gd_v (.free rfl) rfl rfl (qt_move rfl rfl) ?_
              refine gd_v (.free rfl) rfl rfl (qt_move rfl rfl) ?_
              refine gd_v (.free rfl) rfl rfl (qt_neq rfl rfl rfl) ?_
              refine gd_splitv (.free rfl) rfl rfl (qt_move rfl rfl) (fun hs15_3 => ?_) (fun hs15_3 => ?_)
              · try simp only [decide_eq_true_eq, decide_eq_false_iff_not, Bool.not_eq_true', Bool.not_eq_false', Bool.not_eq_eq_eq_not, Bool.not_true, Bool.not_false, ne_eq, Decidable.not_not, Classical.not_not] at hs15_3
                refine gd_v (.held _ _ _ rfl rfl rfl) rfl rfl (qt_move rfl rfl) ?_
                refine gd_v (.held _ _ _ rfl rfl rfl) rfl rfl (qt_move rfl rfl) ?_
                refine gd_v (.held _ _ _ rfl rfl rfl) rfl rfl (qt_neq rfl rfl rfl) ?_
                refine gd_v (.free rfl) rfl rfl (qt_pick_t rfl rfl rfl) ?_
                refine gd_splitv (.free rfl) rfl rfl (qt_move rfl rfl) (fun hs15_8 => ?_) (fun hs15_8 => ?_)
                · try simp only [decide_eq_true_eq, decide_eq_false_iff_not, Bool.not_eq_true', Bool.not_eq_false', Bool.not_eq_eq_eq_not, Bool.not_true, Bool.not_false, ne_eq, Decidable.not_not, Classical.not_not] at hs15_8
                  refine gd_skip (.not _ _ _ _ rfl rfl rfl rfl) rfl rfl ?_
                  refine gd_skip (.not _ _ _ _ rfl rfl rfl rfl) rfl rfl ?_
                  refine gd_skip (.not _ _ _ _ rfl rfl rfl rfl) rfl rfl ?_
                  refine gd_skip (.not _ _ _ _ rfl rfl rfl rfl) rfl rfl ?_
                  refine gd_skip (.not _ _ _ _ rfl rfl rfl rfl) rfl rfl ?_
                  refine gd_v (.free rfl) rfl rfl (qt_pick_t rfl rfl rfl) ?_
                  refine gd_v (.free rfl) rfl rfl (qt_move rfl rfl) ?_
                  refine gd_skip (.not _ _ _ _ rfl rfl rfl rfl) rfl rfl ?_
                  refine gd_skip (.not _ _ _ _ rfl rfl rfl rfl) rfl rfl ?_
                  refine gd_skip (.not _ _ _ _ rfl rfl rfl rfl) rfl rfl ?_
                  refine gd_skip (.not _ _ _ _ rfl rfl rfl rfl) rfl rfl ?_
                  refine gd_skip (.not _ _ _ _ rfl rfl rfl rfl) rfl rfl ?_
                  refine gd_v (.free rfl) rfl rfl (qt_pick_t rfl rfl rfl) ?_
                  refine gd_v (.free rfl) rfl rfl (qt_move rfl rfl) ?_
                  refine gd_skip (.not _ _ _ _ rfl rfl rfl rfl) rfl rfl ?_
                  refine gd_skip (.not _ _ _ _ rfl rfl rfl rfl) rfl rfl ?_
                  refine gd_skip (.not _ _ _ _ rfl rfl rfl rfl) rfl rfl ?_
                  refine gd_skip (.not _ _ _ _ rfl rfl rfl rfl) rfl rfl ?_
                  refine gd_skip (.not _ _ _ _ rfl rfl rfl rfl) rfl rfl ?_
                  refine gd_skip (.not _ _ _ _ rfl rfl rfl rfl) rfl rfl ?_
                  refine gd_skip (.not _ _ _ _ rfl rfl rfl rfl) rfl rfl ?_
                  refine gd_skip (.not _ _ _ _ rfl rfl rfl rfl) rfl rfl ?_
                  refine gd_skip (.not _ _ _ _ rfl rfl rfl rfl) rfl rfl ?_
                  refine gd_skip (.not _ _ _ _ rfl rfl rfl rfl) rfl rfl ?_
                  refine gd_skip (.not _ _ _ _ rfl rfl rfl rfl) rfl rfl ?_
                  refine gd_v (.free rfl) rfl rfl (qt_pick_t rfl rfl rfl) ?_
                  refine gd_v (.free rfl) rfl rfl (qt_assign rfl rfl) ?_
                  refine gd_nil ?_
                  refine gk_block ?_
                  refine gk_then (hK30 _ _ ?_)
                  refine gc_region ?_
                  refine g_v (.free rfl) rfl rfl (qt_move rfl rfl) ?_
                  refine g_v (.free rfl) rfl rfl (qt_add rfl rfl rfl (by omega)) ?_
                  refine g_v (.free rfl) rfl rfl (qt_assign rfl rfl) ?_
                  refine g_nil ?_
                  refine gk_then (gk_take 5 ?_)
                  refine gk_sub ?hs_32 (hKL27 (true, a + 1) ?hi_32 ?hm_32)
                  case hs_32 => exact (sub_cons rfl (sub_cons rfl (sub_cons rfl (sub_cons rfl (sub_cons rfl (sub_cons rfl (sub_cons rfl (sub_cons rfl (sub_cons rfl (sub_cons rfl (sub_cons rfl (sub_cons rfl (sub_cons rfl (sub_cons rfl sub_nil))))))))))))))
                  case hi_32 => subst hs12_1; exact fitL_t hL (by omega) (fun ht => by rcases ht with h | h <;> omega)
                  case hm_32 => omega
                · try simp only [decide_eq_true_eq, decide_eq_false_iff_not, Bool.not_eq_true', Bool.not_eq_false', Bool.not_eq_eq_eq_not, Bool.not_true, Bool.not_false, ne_eq, Decidable.not_not, Classical.not_not] at hs15_8
                  refine gd_v (.held _ _ _ rfl rfl rfl) rfl rfl (qt_move rfl rfl) ?_
                  refine gd_v (.held _ _ _ rfl rfl rfl) rfl rfl (qt_move rfl rfl) ?_
                  refine gd_v (.held _ _ _ rfl rfl rfl) rfl rfl (qt_index rfl rfl rfl ulE1 szE1 (fun w M => lenA_own1 (n := 4) rfl M) (by omega) (by rw [List.length_set]; omega)) ?_
                  refine gd_v (.held _ _ _ rfl rfl rfl) rfl rfl (qt_load1 rfl rfl Tryd.underlying2 rfl (fun w M => (mem_own1 (n := 4) M rfl).rd) (by omega) (by rw [List.length_set]; omega)) ?_
                  refine gd_v (.held _ _ _ rfl rfl rfl) rfl rfl (qt_lss rfl rfl rfl) ?_
                  refine gd_v (.free rfl) rfl rfl (qt_pick_f rfl rfl rfl) ?_
                  refine gd_splitv (.free rfl) rfl rfl (qt_move rfl rfl) (fun hs15_15 => ?_) (fun hs15_15 => ?_)
                  · try simp only [decide_eq_true_eq, decide_eq_false_iff_not, Bool.not_eq_true', Bool.not_eq_false', Bool.not_eq_eq_eq_not, Bool.not_true, Bool.not_false, ne_eq, Decidable.not_not, Classical.not_not] at hs15_15
                    refine gd_skip (.not _ _ _ _ rfl rfl rfl rfl) rfl rfl ?_
                    refine gd_skip (.not _ _ _ _ rfl rfl rfl rfl) rfl rfl ?_
                    refine gd_skip (.not _ _ _ _ rfl rfl rfl rfl) rfl rfl ?_
                    refine gd_skip (.not _ _ _ _ rfl rfl rfl rfl) rfl rfl ?_
                    refine gd_skip (.not _ _ _ _ rfl rfl rfl rfl) rfl rfl ?_
                    refine gd_v (.free rfl) rfl rfl (qt_pick_t rfl rfl rfl) ?_
                    refine gd_v (.free rfl) rfl rfl (qt_move rfl rfl) ?_
                    refine gd_skip (.not _ _ _ _ rfl rfl rfl rfl) rfl rfl ?_
                    refine gd_skip (.not _ _ _ _ rfl rfl rfl rfl) rfl rfl ?_
                    refine gd_skip (.not _ _ _ _ rfl rfl rfl rfl) rfl rfl ?_
                    refine gd_skip (.not _ _ _ _ rfl rfl rfl rfl) rfl rfl ?_
                    refine gd_skip (.not _ _ _ _ rfl rfl rfl rfl) rfl rfl ?_
                    refine gd_skip (.not _ _ _ _ rfl rfl rfl rfl) rfl rfl ?_
                    refine gd_skip (.not _ _ _ _ rfl rfl rfl rfl) rfl rfl ?_
                    refine gd_skip (.not _ _ _ _ rfl rfl rfl rfl) rfl rfl ?_
                    refine gd_skip (.not _ _ _ _ rfl rfl rfl rfl) rfl rfl ?_
                    refine gd_skip (.not _ _ _ _ rfl rfl rfl rfl) rfl rfl ?_
                    refine gd_skip (.not _ _ _ _ rfl rfl rfl rfl) rfl rfl ?_
                    refine gd_v (.free rfl) rfl rfl (qt_pick_t rfl rfl rfl) ?_
                    refine gd_v (.free rfl) rfl rfl (qt_assign rfl rfl) ?_
                    refine gd_nil ?_
                    refine gk_block ?_
                    refine gk_then (hK30 _ _ ?_)
                    refine gc_region ?_
                    refine g_v (.free rfl) rfl rfl (qt_move rfl rfl) ?_
                    refine g_v (.free rfl) rfl rfl (qt_add rfl rfl rfl (by omega)) ?_
                    refine g_v (.free rfl) rfl rfl (qt_assign rfl rfl) ?_
                    refine g_nil ?_
                    refine gk_then (gk_take 5 ?_)
                    refine gk_sub ?hs_33 (hKL27 (true, a + 1) ?hi_33 ?hm_33)
                    case hs_33 => exact (sub_cons rfl (sub_cons rfl (sub_cons rfl (sub_cons rfl (sub_cons rfl (sub_cons rfl (sub_cons rfl (sub_cons rfl (sub_cons rfl (sub_cons rfl (sub_cons rfl (sub_cons rfl (sub_cons rfl (sub_cons rfl sub_nil))))))))))))))
                    case hi_33 => subst hs12_1; exact fitL_t hL (by omega) (fun _ => .inl hs15_15)
                    case hm_33 => omega
                  · try simp only [decide_eq_true_eq, decide_eq_false_iff_not, Bool.not_eq_true', Bool.not_eq_false', Bool.not_eq_eq_eq_not, Bool.not_true, Bool.not_false, ne_eq, Decidable.not_not, Classical.not_not] at hs15_15
                    refine gd_v (.held _ _ _ rfl rfl rfl) rfl rfl (qt_move rfl rfl) ?_
                    refine gd_v (.held _ _ _ rfl rfl rfl) rfl rfl (qt_move rfl rfl) ?_
                    refine gd_v (.held _ _ _ rfl rfl rfl) rfl rfl (qt_index rfl rfl rfl ulE1 szE1 (fun w M => lenA_own1 (n := 4) rfl M) (by omega) (by rw [List.length_set]; omega)) ?_
                    refine gd_v (.held _ _ _ rfl rfl rfl) rfl rfl (qt_load1 rfl rfl Tryd.underlying2 rfl (fun w M => (mem_own1 (n := 4) M rfl).rd) (by omega) (by rw [List.length_set]; omega)) ?_
                    refine gd_v (.held _ _ _ rfl rfl rfl) rfl rfl (qt_lss rfl rfl rfl) ?_
                    refine gd_v (.free rfl) rfl rfl (qt_pick_f rfl rfl rfl) ?_
                    refine gd_splitv (.free rfl) rfl rfl (qt_move rfl rfl) (fun hs15_22 => ?_) (fun hs15_22 => ?_)
                    · try simp only [decide_eq_true_eq, decide_eq_false_iff_not, Bool.not_eq_true', Bool.not_eq_false', Bool.not_eq_eq_eq_not, Bool.not_true, Bool.not_false, ne_eq, Decidable.not_not, Classical.not_not] at hs15_22
                      refine gd_skip (.not _ _ _ _ rfl rfl rfl rfl) rfl rfl ?_
                      refine gd_skip (.not _ _ _ _ rfl rfl rfl rfl) rfl rfl ?_
                      refine gd_skip (.not _ _ _ _ rfl rfl rfl rfl) rfl rfl ?_
                      refine gd_skip (.not _ _ _ _ rfl rfl rfl rfl) rfl rfl ?_
                      refine gd_skip (.not _ _ _ _ rfl rfl rfl rfl) rfl rfl ?_
                      refine gd_skip (.not _ _ _ _ rfl rfl rfl rfl) rfl rfl ?_
                      refine gd_skip (.not _ _ _ _ rfl rfl rfl rfl) rfl rfl ?_
                      refine gd_skip (.not _ _ _ _ rfl rfl rfl rfl) rfl rfl ?_
                      refine gd_skip (.not _ _ _ _ rfl rfl rfl rfl) rfl rfl ?_
                      refine gd_skip (.not _ _ _ _ rfl rfl rfl rfl) rfl rfl ?_
                      refine gd_skip (.not _ _ _ _ rfl rfl rfl rfl) rfl rfl ?_
                      refine gd_v (.free rfl) rfl rfl (qt_pick_t rfl rfl rfl) ?_
                      refine gd_v (.free rfl) rfl rfl (qt_assign rfl rfl) ?_
                      refine gd_nil ?_
                      refine gk_block ?_
                      refine gk_then (hK30 _ _ ?_)
                      refine gc_region ?_
                      refine g_v (.free rfl) rfl rfl (qt_move rfl rfl) ?_
                      refine g_v (.free rfl) rfl rfl (qt_add rfl rfl rfl (by omega)) ?_
                      refine g_v (.free rfl) rfl rfl (qt_assign rfl rfl) ?_
                      refine g_nil ?_
                      refine gk_then (gk_take 5 ?_)
                      refine gk_sub ?hs_34 (hKL27 (true, a + 1) ?hi_34 ?hm_34)
                      case hs_34 => exact (sub_cons rfl (sub_cons rfl (sub_cons rfl (sub_cons rfl (sub_cons rfl (sub_cons rfl (sub_cons rfl (sub_cons rfl (sub_cons rfl (sub_cons rfl (sub_cons rfl (sub_cons rfl (sub_cons rfl (sub_cons rfl sub_nil))))))))))))))
                      case hi_34 => subst hs12_1; exact fitL_t hL (by omega) (fun _ => .inr (.inl hs15_22))
                      case hm_34 => omega
                    · try simp only [decide_eq_true_eq, decide_eq_false_iff_not, Bool.not_eq_true', Bool.not_eq_false', Bool.not_eq_eq_eq_not, Bool.not_true, Bool.not_false, ne_eq, Decidable.not_not, Classical.not_not] at hs15_22
                      refine gd_v (.held _ _ _ rfl rfl rfl) rfl rfl (qt_move rfl rfl) ?_
                      refine gd_v (.held _ _ _ rfl rfl rfl) rfl rfl (qt_nilP rfl rfl) ?_
                      refine gd_v (.held _ _ _ rfl rfl rfl) rfl rfl (qt_field (z := 11) (off := 0) rfl rfl Tryd.underlying106 rfl (by kernel_rfl) rfl) ?_
                      refine gd_v (.held _ _ _ rfl rfl rfl) rfl rfl (qt_loadRQ hbB (z := 12) rfl rfl Tryd.underlying45 rfl (by kernel_rfl) (by simp)) ?_
                      refine gd_v (.held _ _ _ rfl rfl rfl) rfl rfl (qt_move rfl rfl) ?_
                      refine gd_v (.held _ _ _ rfl rfl rfl) rfl rfl (qt_nilP rfl rfl) ?_
                      refine gd_v (.held _ _ _ rfl rfl rfl) rfl rfl (qt_field (z := 11) (off := 12) rfl rfl Tryd.underlying106 rfl (by kernel_rfl) rfl) ?_
                      refine gd_v (.held _ _ _ rfl rfl rfl) rfl rfl (qt_loadRQ hbB (z := 12) rfl rfl Tryd.underlying45 rfl (by kernel_rfl) (by simp)) ?_
                      refine gd_v (.held _ _ _ rfl rfl rfl) rfl rfl (qt_move rfl rfl) ?_
                      refine gd_v (.held _ _ _ rfl rfl rfl) rfl rfl (qt_move rfl rfl) ?_
                      refine gd_q (.held _ _ _ rfl rfl rfl) rfl rfl (qt_call rfl Tryd.func127 rfl (by decide) rfl (fun w M => specSquare_any w _ _ _ _ _ _ (rdF_mk (mem_rd M h1) (mem_rd M h2) (mem_rd M h3) (mem_rd2 M h4) (mem_rd M h5) (mem_rd M h6) (mem_rd M h7) (mem_rd2 M h8) (mem_rd M h9) (mem_rd M h10)) (rdF_mk (mem_rd M e1) (mem_rd M e2) (mem_rd M e3) (mem_rd2 M e4) (mem_rd M e5) (mem_rd M e6) (mem_rd M e7) (mem_rd2 M e8) (mem_rd M e9) (mem_rd M e10)) ((mem_own1 (n := 4) M rfl).rd) (a) (sqB_of hF hG hp (by rw [List.length_set]; exact hlc) (by omega) (by omega) (by omega) (inC_at hi2 (by omega) (by rw [List.length_set]; omega)) (by omega) (inC_at hi2 (by omega) (by rw [List.length_set]; omega))))) ?_
                      refine gd_v (.free rfl) rfl rfl (qt_pick_f rfl rfl rfl) ?_
                      refine gd_v (.free rfl) rfl rfl (qt_assign rfl rfl) ?_
                      refine gd_nil ?_
                      refine gk_block ?_
                      refine gk_then (hK30 _ _ ?_)
                      refine gc_region ?_
                      refine g_v (.free rfl) rfl rfl (qt_move rfl rfl) ?_
                      refine g_v (.free rfl) rfl rfl (qt_add rfl rfl rfl (by omega)) ?_
                      refine g_v (.free rfl) rfl rfl (qt_assign rfl rfl) ?_
                      refine g_nil ?_
                      refine gk_then (gk_take 5 ?_)
                      refine gk_sub ?hs_35 (hKL27 (bP (SqP F G (c.set x (at0 (homTo F.T (at0 F.o (x : Int)) (at0 G.o (x : Int)) F.T.s.length) (k : Int))) a), a + 1) ?hi_35 ?hm_35)
                      case hs_35 => exact (sub_cons rfl (sub_cons rfl (sub_cons rfl (sub_cons rfl (sub_cons rfl (sub_cons rfl (sub_cons rfl (sub_cons rfl (sub_cons rfl (sub_cons rfl (sub_cons rfl (sub_cons rfl (sub_cons rfl (sub_cons rfl sub_nil))))))))))))))
                      case hi_35 => subst hs12_1; exact fitL_b hL (by omega) (.inr (by omega)) (by omega) (by omega)
                      case hm_35 => omega
              · try simp only [decide_eq_true_eq, decide_eq_false_iff_not, Bool.not_eq_true', Bool.not_eq_false', Bool.not_eq_eq_eq_not, Bool.not_true, Bool.not_false, ne_eq, Decidable.not_not, Classical.not_not] at hs15_3
                refine gd_skip (.not _ _ _ _ rfl rfl rfl rfl) rfl rfl ?_
                refine gd_skip (.not _ _ _ _ rfl rfl rfl rfl) rfl rfl ?_
                refine gd_skip (.not _ _ _ _ rfl rfl rfl rfl) rfl rfl ?_
                refine gd_v (.free rfl) rfl rfl (qt_pick_f rfl rfl rfl) ?_
                refine gd_v (.free rfl) rfl rfl (qt_move rfl rfl) ?_
                refine gd_v (.held _ _ _ rfl rfl rfl) rfl rfl (qt_move rfl rfl) ?_
                refine gd_v (.held _ _ _ rfl rfl rfl) rfl rfl (qt_move rfl rfl) ?_
                refine gd_v (.held _ _ _ rfl rfl rfl) rfl rfl (qt_index rfl rfl rfl ulE1 szE1 (fun w M => lenA_own1 (n := 4) rfl M) (by omega) (by rw [List.length_set]; omega)) ?_
                refine gd_v (.held _ _ _ rfl rfl rfl) rfl rfl (qt_load1 rfl rfl Tryd.underlying2 rfl (fun w M => (mem_own1 (n := 4) M rfl).rd) (by omega) (by rw [List.length_set]; omega)) ?_
                refine gd_v (.held _ _ _ rfl rfl rfl) rfl rfl (qt_lss rfl rfl rfl) ?_
                refine gd_v (.free rfl) rfl rfl (qt_pick_f rfl rfl rfl) ?_
                refine gd_splitv (.free rfl) rfl rfl (qt_move rfl rfl) (fun hs15_15 => ?_) (fun hs15_15 => ?_)
                · try simp only [decide_eq_true_eq, decide_eq_false_iff_not, Bool.not_eq_true', Bool.not_eq_false', Bool.not_eq_eq_eq_not, Bool.not_true, Bool.not_false, ne_eq, Decidable.not_not, Classical.not_not] at hs15_15
                  refine gd_skip (.not _ _ _ _ rfl rfl rfl rfl) rfl rfl ?_
                  refine gd_skip (.not _ _ _ _ rfl rfl rfl rfl) rfl rfl ?_
                  refine gd_skip (.not _ _ _ _ rfl rfl rfl rfl) rfl rfl ?_
                  refine gd_skip (.not _ _ _ _ rfl rfl rfl rfl) rfl rfl ?_
                  refine gd_skip (.not _ _ _ _ rfl rfl rfl rfl) rfl rfl ?_
                  refine gd_v (.free rfl) rfl rfl (qt_pick_t rfl rfl rfl) ?_
                  refine gd_v (.free rfl) rfl rfl (qt_move rfl rfl) ?_
                  refine gd_skip (.not _ _ _ _ rfl rfl rfl rfl) rfl rfl ?_
                  refine gd_skip (.not _ _ _ _ rfl rfl rfl rfl) rfl rfl ?_
                  refine gd_skip (.not _ _ _ _ rfl rfl rfl rfl) rfl rfl ?_
                  refine gd_skip (.not _ _ _ _ rfl rfl rfl rfl) rfl rfl ?_
                  refine gd_skip (.not _ _ _ _ rfl rfl rfl rfl) rfl rfl ?_
                  refine gd_skip (.not _ _ _ _ rfl rfl rfl rfl) rfl rfl ?_
                  refine gd_skip (.not _ _ _ _ rfl rfl rfl rfl) rfl rfl ?_
                  refine gd_skip (.not _ _ _ _ rfl rfl rfl rfl) rfl rfl ?_
                  refine gd_skip (.not _ _ _ _ rfl rfl rfl rfl) rfl rfl ?_
                  refine gd_skip (.not _ _ _ _ rfl rfl rfl rfl) rfl rfl ?_
                  refine gd_skip (.not _ _ _ _ rfl rfl rfl rfl) rfl rfl ?_
                  refine gd_v (.free rfl) rfl rfl (qt_pick_t rfl rfl rfl) ?_
                  refine gd_v (.free rfl) rfl rfl (qt_assign rfl rfl) ?_
                  refine gd_nil ?_
                  refine gk_block ?_
                  refine gk_then (hK30 _ _ ?_)
                  refine gc_region ?_
                  refine g_v (.free rfl) rfl rfl (qt_move rfl rfl) ?_
                  refine g_v (.free rfl) rfl rfl (qt_add rfl rfl rfl (by omega)) ?_
                  refine g_v (.free rfl) rfl rfl (qt_assign rfl rfl) ?_
                  refine g_nil ?_
                  refine gk_then (gk_take 5 ?_)
                  refine gk_sub ?hs_36 (hKL27 (true, a + 1) ?hi_36 ?hm_36)
                  case hs_36 => exact (sub_cons rfl (sub_cons rfl (sub_cons rfl (sub_cons rfl (sub_cons rfl (sub_cons rfl (sub_cons rfl (sub_cons rfl (sub_cons rfl (sub_cons rfl (sub_cons rfl (sub_cons rfl (sub_cons rfl (sub_cons rfl sub_nil))))))))))))))
                  case hi_36 => subst hs12_1; exact fitL_t hL (by omega) (fun _ => .inl hs15_15)
                  case hm_36 => omega
                · try simp only [decide_eq_true_eq, decide_eq_false_iff_not, Bool.not_eq_true', Bool.not_eq_false', Bool.not_eq_eq_eq_not, Bool.not_true, Bool.not_false, ne_eq, Decidable.not_not, Classical.not_not] at hs15_15
                  refine gd_v (.held _ _ _ rfl rfl rfl) rfl rfl (qt_move rfl rfl) ?_
                  refine gd_v (.held _ _ _ rfl rfl rfl) rfl rfl (qt_move rfl rfl) ?_
                  refine gd_v (.held _ _ _ rfl rfl rfl) rfl rfl (qt_index rfl rfl rfl ulE1 szE1 (fun w M => lenA_own1 (n := 4) rfl M) (by omega) (by rw [List.length_set]; omega)) ?_
                  refine gd_v (.held _ _ _ rfl rfl rfl) rfl rfl (qt_load1 rfl rfl Tryd.underlying2 rfl (fun w M => (mem_own1 (n := 4) M rfl).rd) (by omega) (by rw [List.length_set]; omega)) ?_
                  refine gd_v (.held _ _ _ rfl rfl rfl) rfl rfl (qt_lss rfl rfl rfl) ?_
                  refine gd_v (.free rfl) rfl rfl (qt_pick_f rfl rfl rfl) ?_
                  refine gd_splitv (.free rfl) rfl rfl (qt_move rfl rfl) (fun hs15_22 => ?_) (fun hs15_22 => ?_)
                  · try simp only [decide_eq_true_eq, decide_eq_false_iff_not, Bool.not_eq_true', Bool.not_eq_false', Bool.not_eq_eq_eq_not, Bool.not_true, Bool.not_false, ne_eq, Decidable.not_not, Classical.not_not] at hs15_22
                    refine gd_skip (.not _ _ _ _ rfl rfl rfl rfl) rfl rfl ?_
                    refine gd_skip (.not _ _ _ _ rfl rfl rfl rfl) rfl rfl ?_
                    refine gd_skip (.not _ _ _ _ rfl rfl rfl rfl) rfl rfl ?_
                    refine gd_skip (.not _ _ _ _ rfl rfl rfl rfl) rfl rfl ?_
                    refine gd_skip (.not _ _ _ _ rfl rfl rfl rfl) rfl rfl ?_
                    refine gd_skip (.not _ _ _ _ rfl rfl rfl rfl) rfl rfl ?_
                    refine gd_skip (.not _ _ _ _ rfl rfl rfl rfl) rfl rfl ?_
                    refine gd_skip (.not _ _ _ _ rfl rfl rfl rfl) rfl rfl ?_
                    refine gd_skip (.not _ _ _ _ rfl rfl rfl rfl) rfl rfl ?_
                    refine gd_skip (.not _ _ _ _ rfl rfl rfl rfl) rfl rfl ?_
                    refine gd_skip (.not _ _ _ _ rfl rfl rfl rfl) rfl rfl ?_
                    refine gd_v (.free rfl) rfl rfl (qt_pick_t rfl rfl rfl) ?_
                    refine gd_v (.free rfl) rfl rfl (qt_assign rfl rfl) ?_
                    refine gd_nil ?_
                    refine gk_block ?_
                    refine gk_then (hK30 _ _ ?_)
                    refine gc_region ?_
                    refine g_v (.free rfl) rfl rfl (qt_move rfl rfl) ?_
                    refine g_v (.free rfl) rfl rfl (qt_add rfl rfl rfl (by omega)) ?_
                    refine g_v (.free rfl) rfl rfl (qt_assign rfl rfl) ?_
                    refine g_nil ?_
                    refine gk_then (gk_take 5 ?_)
                    refine gk_sub ?hs_37 (hKL27 (true, a + 1) ?hi_37 ?hm_37)
                    case hs_37 => exact (sub_cons rfl (sub_cons rfl (sub_cons rfl (sub_cons rfl (sub_cons rfl (sub_cons rfl (sub_cons rfl (sub_cons rfl (sub_cons rfl (sub_cons rfl (sub_cons rfl (sub_cons rfl (sub_cons rfl (sub_cons rfl sub_nil))))))))))))))
                    case hi_37 => subst hs12_1; exact fitL_t hL (by omega) (fun _ => .inr (.inl hs15_22))
                    case hm_37 => omega
                  · try simp only [decide_eq_true_eq, decide_eq_false_iff_not, Bool.not_eq_true', Bool.not_eq_false', Bool.not_eq_eq_eq_not, Bool.not_true, Bool.not_false, ne_eq, Decidable.not_not, Classical.not_not] at hs15_22
                    refine gd_v (.held _ _ _ rfl rfl rfl) rfl rfl (qt_move rfl rfl) ?_
                    refine gd_v (.held _ _ _ rfl rfl rfl) rfl rfl (qt_nilP rfl rfl) ?_
                    refine gd_v (.held _ _ _ rfl rfl rfl) rfl rfl (qt_field (z := 11) (off := 0) rfl rfl Tryd.underlying106 rfl (by kernel_rfl) rfl) ?_
                    refine gd_v (.held _ _ _ rfl rfl rfl) rfl rfl (qt_loadRQ hbB (z := 12) rfl rfl Tryd.underlying45 rfl (by kernel_rfl) (by simp)) ?_
                    refine gd_v (.held _ _ _ rfl rfl rfl) rfl rfl (qt_move rfl rfl) ?_
                    refine gd_v (.held _ _ _ rfl rfl rfl) rfl rfl (qt_nilP rfl rfl) ?_
                    refine gd_v (.held _ _ _ rfl rfl rfl) rfl rfl (qt_field (z := 11) (off := 12) rfl rfl Tryd.underlying106 rfl (by kernel_rfl) rfl) ?_
                    refine gd_v (.held _ _ _ rfl rfl rfl) rfl rfl (qt_loadRQ hbB (z := 12) rfl rfl Tryd.underlying45 rfl (by kernel_rfl) (by simp)) ?_
                    refine gd_v (.held _ _ _ rfl rfl rfl) rfl rfl (qt_move rfl rfl) ?_
                    refine gd_v (.held _ _ _ rfl rfl rfl) rfl rfl (qt_move rfl rfl) ?_
                    refine gd_q (.held _ _ _ rfl rfl rfl) rfl rfl (qt_call rfl Tryd.func127 rfl (by decide) rfl (fun w M => specSquare_any w _ _ _ _ _ _ (rdF_mk (mem_rd M h1) (mem_rd M h2) (mem_rd M h3) (mem_rd2 M h4) (mem_rd M h5) (mem_rd M h6) (mem_rd M h7) (mem_rd2 M h8) (mem_rd M h9) (mem_rd M h10)) (rdF_mk (mem_rd M e1) (mem_rd M e2) (mem_rd M e3) (mem_rd2 M e4) (mem_rd M e5) (mem_rd M e6) (mem_rd M e7) (mem_rd2 M e8) (mem_rd M e9) (mem_rd M e10)) ((mem_own1 (n := 4) M rfl).rd) (a) (sqB_of hF hG hp (by rw [List.length_set]; exact hlc) (by omega) (by omega) (by omega) (inC_at hi2 (by omega) (by rw [List.length_set]; omega)) (by omega) (inC_at hi2 (by omega) (by rw [List.length_set]; omega))))) ?_
                    refine gd_v (.free rfl) rfl rfl (qt_pick_f rfl rfl rfl) ?_
                    refine gd_v (.free rfl) rfl rfl (qt_assign rfl rfl) ?_
                    refine gd_nil ?_
                    refine gk_block ?_
                    refine gk_then (hK30 _ _ ?_)
                    refine gc_region ?_
                    refine g_v (.free rfl) rfl rfl (qt_move rfl rfl) ?_
                    refine g_v (.free rfl) rfl rfl (qt_add rfl rfl rfl (by omega)) ?_
                    refine g_v (.free rfl) rfl rfl (qt_assign rfl rfl) ?_
                    refine g_nil ?_
                    refine gk_then (gk_take 5 ?_)
                    refine gk_sub ?hs_38 (hKL27 (bP (SqP F G (c.set x (at0 (homTo F.T (at0 F.o (x : Int)) (at0 G.o (x : Int)) F.T.s.length) (k : Int))) a), a + 1) ?hi_38 ?hm_38)
                    case hs_38 => exact (sub_cons rfl (sub_cons rfl (sub_cons rfl (sub_cons rfl (sub_cons rfl (sub_cons rfl (sub_cons rfl (sub_cons rfl (sub_cons rfl (sub_cons rfl (sub_cons rfl (sub_cons rfl (sub_cons rfl (sub_cons rfl sub_nil))))))))))))))
                    case hi_38 => subst hs12_1; exact fitL_b hL (by omega) (.inl (by omega)) (by omega) (by omega)
                    case hm_38 => omega
            · try simp only [decide_eq_true_eq, decide_eq_false_iff_not, Bool.not_eq_true', Bool.not_eq_false', Bool.not_eq_eq_eq_not, Bool.not_true, Bool.not_false, ne_eq, Decidable.not_not, Classical.not_not] at hc2
              refine gc_exit ?_
              refine gk_then_exit ?_
              refine gk_then_exit ?_
              refine gk_block_hit ?_
              refine gk_then (hK25 _ _ ?_)
              refine gc_seq fun K39 hK39 => ?_
              refine gc_region ?_
              refine g_v (.free rfl) rfl rfl (qt_move rfl rfl) ?_
              refine g_nil ?_
              refine gk_then (hK39 _ _ ?_)
              refine gc_cond rfl (fun hc3 => ?_) (fun hc3 => ?_)
              · try simp only [decide_eq_true_eq, decide_eq_false_iff_not, Bool.not_eq_true', Bool.not_eq_false', Bool.not_eq_eq_eq_not, Bool.not_true, Bool.not_false, ne_eq, Decidable.not_not, Classical.not_not] at hc3
                refine gc_region ?_
                refine g_v (.free rfl) rfl rfl (qt_move rfl rfl) ?_
                refine g_v (.free rfl) rfl rfl (qt_move rfl rfl) ?_
                refine g_v (.free rfl) rfl rfl (qt_move rfl rfl) ?_
                refine g_v (.free rfl) rfl rfl (qt_index rfl rfl rfl ulE1 szE1 (fun w M => lenA_own1 (n := 2) rfl M) (by omega) (by omega)) ?_
                refine g_v (.free rfl) rfl rfl (qt_load1 rfl rfl Tryd.underlying2 rfl (fun w M => (mem_own1 (n := 2) M rfl).rd) (by omega) (by omega)) ?_
                refine g_op (.free rfl) fun K41 hK41 => ?_
                refine go_slice1 rfl rfl rfl rfl Tryd.underlying22 ?_
                intro B40
                refine hK41 _ _ ?_
                refine g_op (.free rfl) fun K43 hK43 => ?_
                refine go_append (n := 3) (m := 5) rfl rfl rfl Tryd.underlying22 rfl rfl rfl rfl (by omega) ?_
                intro va42 vc42
                refine hK43 _ _ ?_
                refine g_v (.free rfl) rfl rfl (qt_assign rfl rfl) ?_
                refine g_nil ?_
                refine gk_block ?_
                refine gk_then (hK15 _ _ ?_)
                refine gc_region ?_
                refine g_v (.free rfl) rfl rfl (qt_move rfl rfl) ?_
                refine g_v (.free rfl) rfl rfl (qt_add rfl rfl rfl (by omega)) ?_
                refine g_v (.free rfl) rfl rfl (qt_assign rfl rfl) ?_
                refine g_nil ?_
                first | rw [outL_f (by omega) (.inr (kapS_f (by assumption) (by omega)))] | rw [outL_f (by omega) (.inl (hL.f (by assumption)))] | simp only [outL_t (by omega) (fitL_end' hL (by assumption) (by omega)) hkt] | (exfalso; simp_all; done)
                refine gk_then (gk_take 4 ?_)
                refine gk_sub ?hs_44 (hKL12 (k + 1, _, _) ?hi_44 ?hm_44)
                case hs_44 => exact (sub_cons rfl (sub_cons rfl (sub_cons rfl (sub_cons rfl (sub_cons rfl (sub_cons rfl (sub_cons rfl (sub_cons rfl (sub_cons rfl sub_nil)))))))))
                case hi_44 => omega
                case hm_44 => omega
              · try simp only [decide_eq_true_eq, decide_eq_false_iff_not, Bool.not_eq_true', Bool.not_eq_false', Bool.not_eq_eq_eq_not, Bool.not_true, Bool.not_false, ne_eq, Decidable.not_not, Classical.not_not] at hc3
                refine gc_skip ?_
                refine gk_block ?_
                refine gk_then (hK15 _ _ ?_)
                refine gc_region ?_
                refine g_v (.free rfl) rfl rfl (qt_move rfl rfl) ?_
                refine g_v (.free rfl) rfl rfl (qt_add rfl rfl rfl (by omega)) ?_
                refine g_v (.free rfl) rfl rfl (qt_assign rfl rfl) ?_
                refine g_nil ?_
                first | rw [outL_f (by omega) (.inr (kapS_f (by assumption) (by omega)))] | rw [outL_f (by omega) (.inl (hL.f (by assumption)))] | simp only [outL_t (by omega) (fitL_end' hL (by assumption) (by omega)) hkt] | (exfalso; simp_all; done)
                refine gk_then (gk_take 4 ?_)
                refine gk_sub ?hs_45 (hKL12 (k + 1, _, _) ?hi_45 ?hm_45)
                case hs_45 => exact (sub_cons rfl (sub_cons rfl (sub_cons rfl (sub_cons rfl (sub_cons rfl (sub_cons rfl (sub_cons rfl (sub_cons rfl (sub_cons rfl sub_nil)))))))))
                case hi_45 => omega
                case hm_45 => omega
          · try simp only [decide_eq_true_eq, decide_eq_false_iff_not, Bool.not_eq_true', Bool.not_eq_false', Bool.not_eq_eq_eq_not, Bool.not_true, Bool.not_false, ne_eq, Decidable.not_not, Classical.not_not] at hs12_1
            refine g_skip (.not _ _ _ _ rfl rfl rfl rfl) rfl rfl ?_
            refine g_skip (.not _ _ _ _ rfl rfl rfl rfl) rfl rfl ?_
            refine g_skip (.not _ _ _ _ rfl rfl rfl rfl) rfl rfl ?_
            refine g_skip (.not _ _ _ _ rfl rfl rfl rfl) rfl rfl ?_
            refine g_skip (.not _ _ _ _ rfl rfl rfl rfl) rfl rfl ?_
            refine g_skip (.not _ _ _ _ rfl rfl rfl rfl) rfl rfl ?_
            refine g_skip (.not _ _ _ _ rfl rfl rfl rfl) rfl rfl ?_
            refine g_skip (.not _ _ _ _ rfl rfl rfl rfl) rfl rfl ?_
            refine g_v (.free rfl) rfl rfl (qt_pick_f rfl rfl rfl) ?_
            refine g_nil ?_
            refine gk_then (hK29 _ _ ?_)
            refine gc_cond_f rfl ?_
            refine gc_exit ?_
            refine gk_then_exit ?_
            refine gk_then_exit ?_
            refine gk_block_hit ?_
            refine gk_then (hK25 _ _ ?_)
            refine gc_seq fun K46 hK46 => ?_
            refine gc_region ?_
            refine g_v (.free rfl) rfl rfl (qt_move rfl rfl) ?_
            refine g_nil ?_
            refine gk_then (hK46 _ _ ?_)
            refine gc_cond rfl (fun hc4 => ?_) (fun hc4 => ?_)
            · try simp only [decide_eq_true_eq, decide_eq_false_iff_not, Bool.not_eq_true', Bool.not_eq_false', Bool.not_eq_eq_eq_not, Bool.not_true, Bool.not_false, ne_eq, Decidable.not_not, Classical.not_not] at hc4
              rw [hs12_1] at hc4; exact Bool.noConfusion hc4
            · try simp only [decide_eq_true_eq, decide_eq_false_iff_not, Bool.not_eq_true', Bool.not_eq_false', Bool.not_eq_eq_eq_not, Bool.not_true, Bool.not_false, ne_eq, Decidable.not_not, Classical.not_not] at hc4
              refine gc_skip ?_
              refine gk_block ?_
              refine gk_then (hK15 _ _ ?_)
              refine gc_region ?_
              refine g_v (.free rfl) rfl rfl (qt_move rfl rfl) ?_
              refine g_v (.free rfl) rfl rfl (qt_add rfl rfl rfl (by omega)) ?_
              refine g_v (.free rfl) rfl rfl (qt_assign rfl rfl) ?_
              refine g_nil ?_
              first | rw [outL_f (by omega) (.inr (kapS_f (by assumption) (by omega)))] | rw [outL_f (by omega) (.inl (hL.f (by assumption)))] | simp only [outL_t (by omega) (fitL_end' hL (by assumption) (by omega)) hkt] | (exfalso; simp_all; done)
              refine gk_then (gk_take 4 ?_)
              refine gk_sub ?hs_47 (hKL12 (k + 1, _, _) ?hi_47 ?hm_47)
              case hs_47 => exact (sub_cons rfl (sub_cons rfl (sub_cons rfl (sub_cons rfl (sub_cons rfl (sub_cons rfl (sub_cons rfl (sub_cons rfl (sub_cons rfl sub_nil)))))))))
              case hi_47 => omega
              case hm_47 => omega
      · try simp only [decide_eq_true_eq, decide_eq_false_iff_not, Bool.not_eq_true', Bool.not_eq_false', Bool.not_eq_eq_eq_not, Bool.not_true, Bool.not_false, ne_eq, Decidable.not_not, Classical.not_not] at hs7_4
        refine gd_skip (.not _ _ _ _ rfl rfl rfl rfl) rfl rfl ?_
        refine gd_skip (.not _ _ _ _ rfl rfl rfl rfl) rfl rfl ?_
        refine gd_skip (.not _ _ _ _ rfl rfl rfl rfl) rfl rfl ?_
        refine gd_skip (.not _ _ _ _ rfl rfl rfl rfl) rfl rfl ?_
        refine gd_skip (.not _ _ _ _ rfl rfl rfl rfl) rfl rfl ?_
        refine gd_skip (.not _ _ _ _ rfl rfl rfl rfl) rfl rfl ?_
        refine gd_skip (.not _ _ _ _ rfl rfl rfl rfl) rfl rfl ?_
        refine gd_v (.free rfl) rfl rfl (qt_pick_f rfl rfl rfl) ?_
        refine gd_nil ?_
        refine gk_then (hK17 _ _ ?_)
        refine gc_cond_f rfl ?_
        refine gc_skip ?_
        refine gk_then (hK16 _ _ ?_)
        refine gc_seq fun K48 hK48 => ?_
        have hkt : kapS F iso (at0 (homTo F.T (at0 F.o (x : Int)) (at0 G.o (x : Int)) F.T.s.length) (k : Int)) = true := by first | exact kapS_n (by assumption) | exact kapS_t (by omega)
        refine gc_region ?_
        refine g_v (.free rfl) rfl rfl (qt_move rfl rfl) ?_
        refine g_op (.free rfl) fun K50 hK50 => ?_
        refine go_callL rfl rfl rfl Tryd.func84 rfl (by decide) rfl (fun w M => specOwn_any w _ _ (mem_rd M hc)) ?_
        intro va49 vc49
        refine hK50 _ _ ?_
        refine g_v (.free rfl) rfl rfl (qt_assign rfl rfl) ?_
        refine g_nil ?_
        refine gk_then (hK48 _ _ ?_)
        refine gc_seq fun K51 hK51 => ?_
        refine gc_region ?_
        refine g_v (.free rfl) rfl rfl (qt_move rfl rfl) ?_
        refine g_v (.free rfl) rfl rfl (qt_move rfl rfl) ?_
        refine g_v (.free rfl) rfl rfl (qt_move rfl rfl) ?_
        refine g_v (.free rfl) rfl rfl (qt_move rfl rfl) ?_
        refine g_v (.free rfl) rfl rfl (qt_index rfl rfl rfl ulE1 szE1 (fun w M => lenA_own1 (n := 2) rfl M) (by omega) (by omega)) ?_
        refine g_v (.free rfl) rfl rfl (qt_load1 rfl rfl Tryd.underlying2 rfl (fun w M => (mem_own1 (n := 2) M rfl).rd) (by omega) (by omega)) ?_
        refine g_v (.free rfl) rfl rfl (qt_index rfl rfl rfl ulE1 szE1 (fun w M => lenA_own1 (n := 4) rfl M) (by omega) (by omega)) ?_
        refine g_op (.free rfl) fun K52 hK52 => ?_
        refine go_store1 (n := 4) rfl rfl rfl rfl (by kernel_rfl) rfl (by omega) (by omega) ?_
        refine hK52 _ _ ?_
        refine g_nil ?_
        refine gk_then (hK51 _ _ ?_)
        refine gc_seq fun K53 hK53 => ?_
        simp only [Int.toNat_natCast]
        refine gc_region ?_
        refine g_v (.free rfl) rfl rfl (qt_assign rfl rfl) ?_
        refine g_nil ?_
        refine gk_then (hK53 _ _ ?_)
        refine gc_seq fun K54 hK54 => ?_
        refine gc_seq fun K55 hK55 => ?_
        refine gc_region ?_
        refine g_v (.free rfl) rfl rfl (qt_assign rfl rfl) ?_
        refine g_nil ?_
        refine gk_then (hK55 _ _ ?_)
        refine gc_block ?_
        try simp only [List.nil_append, List.cons_append, List.append_assoc, List.set_cons_succ, List.set_cons_zero]
        refine gc_loop ([(0, _), (1, _), (2, _), (6, _), (7, _), (8, _), (9, _), (10, _), (11, _), (12, _), (49, _), (64, _)] : Env) (fun s : Bool × Nat => (fun (g : Bool) (a : Nat) => ([(13, .bool g), (14, .int .i64 (a : Int))] : Env)) s.1 s.2) (fun s : Bool × Nat => (fun (g : Bool) (a : Nat) => ([] : List (Nat × Itm))) s.1 s.2) (fun s : Bool × Nat => (fun (g : Bool) (a : Nat) => FitL F G c x (at0 (homTo F.T (at0 F.o (x : Int)) (at0 G.o (x : Int)) F.T.s.length) (k : Int)) a g) s.1 s.2) (fun s : Bool × Nat => (fun (g : Bool) (a : Nat) => F.S.s.length - a) s.1 s.2) (true, 0) (sub_cons rfl (sub_cons rfl (sub_cons rfl (sub_cons rfl (sub_cons rfl (sub_cons rfl (sub_cons rfl (sub_cons rfl (sub_cons rfl (sub_cons rfl (sub_cons rfl (sub_cons rfl (sub_cons rfl (sub_cons rfl sub_nil)))))))))))))) rfl (fitL_0 _ _ _ _ _) ?_
        rintro ⟨g, a⟩ hinv KL56 hKL56
        simp only [updL, List.foldl_cons, List.foldl_nil, List.set_cons_succ, List.set_cons_zero, List.cons_append, List.nil_append] at hinv hKL56 ⊢
        have hL := hinv
        have hle := hL.le
        refine gc_seq fun K57 hK57 => ?_
        refine gc_seq fun K58 hK58 => ?_
        refine gc_region ?_
        refine g_v (.free rfl) rfl rfl (qt_move rfl rfl) ?_
        refine g_splitv (.free rfl) rfl rfl (qt_move rfl rfl) (fun hs12_1 => ?_) (fun hs12_1 => ?_)
        · try simp only [decide_eq_true_eq, decide_eq_false_iff_not, Bool.not_eq_true', Bool.not_eq_false', Bool.not_eq_eq_eq_not, Bool.not_true, Bool.not_false, ne_eq, Decidable.not_not, Classical.not_not] at hs12_1
          refine g_v (.held _ _ _ rfl rfl rfl) rfl rfl (qt_move rfl rfl) ?_
          refine g_v (.held _ _ _ rfl rfl rfl) rfl rfl (qt_move rfl rfl) ?_
          refine g_v (.held _ _ _ rfl rfl rfl) rfl rfl (qt_nilP rfl rfl) ?_
          refine g_v (.held _ _ _ rfl rfl rfl) rfl rfl (qt_field (z := 11) (off := 0) rfl rfl Tryd.underlying106 rfl (by kernel_rfl) rfl) ?_
          refine g_v (.held _ _ _ rfl rfl rfl) rfl rfl (qt_field (z := 0) (off := 11) rfl rfl Tryd.underlying45 rfl (by kernel_rfl) rfl) ?_
          refine g_v (.held _ _ _ rfl rfl rfl) rfl rfl (qt_loadRB hbB rfl rfl Tryd.underlying22 rfl rfl) ?_
          refine g_v (.held _ _ _ rfl rfl rfl) rfl rfl (qt_len rfl rfl ulE1 (fun w M => lenV_rd h10)) ?_
          refine g_v (.held _ _ _ rfl rfl rfl) rfl rfl (qt_lss rfl rfl rfl) ?_
          refine g_v (.free rfl) rfl rfl (qt_pick_t rfl rfl rfl) ?_
          refine g_nil ?_
          refine gk_then (hK58 _ _ ?_)
          refine gc_cond rfl (fun hc5 => ?_) (fun hc5 => ?_)
          · try simp only [decide_eq_true_eq, decide_eq_false_iff_not, Bool.not_eq_true', Bool.not_eq_false', Bool.not_eq_eq_eq_not, Bool.not_true, Bool.not_false, ne_eq, Decidable.not_not, Classical.not_not] at hc5
            refine gc_skip ?_
            refine gk_then (hK57 _ _ ?_)
            refine gc_seq fun K59 hK59 => ?_
            refine gc_block ?_
            refine gc_seq fun K60 hK60 => ?_
            have hst := allP_at hS.sa (k := a) (by omega)
            have htt := allP_at hS.ta (k := a) (by omega)
            have hst0 := hst.1; have hst1 := hst.2; have htt0 := htt.1; have htt1 := htt.2
            have hi2 := inC_set hi (x := x) (p := at0 (homTo F.T (at0 F.o (x : Int)) (at0 G.o (x : Int)) F.T.s.length) (k : Int)) hp1
            refine gc_draw (by kernel_rfl) ?_
            refine gd_v (.free rfl) rfl rfl (qt_field (z := 0) (off := 1) rfl rfl Tryd.underlying30 rfl (by kernel_rfl) rfl) ?_
            refine gd_v (.free rfl) rfl rfl (qt_loadB (n := 0) rfl rfl Tryd.underlying22 rfl rfl rfl) ?_
            refine gd_v (.free rfl) rfl rfl (qt_move rfl rfl) ?_
            refine gd_v (.free rfl) rfl rfl (qt_index rfl rfl rfl ulE1 szE1 (fun w M => lenA_rd h1) (by omega) (by omega)) ?_
            refine gd_v (.free rfl) rfl rfl (qt_load1 rfl rfl Tryd.underlying2 rfl (fun w M => mem_rd M h1) (by omega) (by omega)) ?_
            refine gd_v (.free rfl) rfl rfl (qt_field (z := 0) (off := 2) rfl rfl Tryd.underlying30 rfl (by kernel_rfl) rfl) ?_
            refine gd_v (.free rfl) rfl rfl (qt_loadB (n := 0) rfl rfl Tryd.underlying22 rfl rfl rfl) ?_
            refine gd_v (.free rfl) rfl rfl (qt_move rfl rfl) ?_
            refine gd_v (.free rfl) rfl rfl (qt_index rfl rfl rfl ulE1 szE1 (fun w M => lenA_rd h2) (by omega) (by omega)) ?_
            refine gd_v (.free rfl) rfl rfl (qt_load1 rfl rfl Tryd.underlying2 rfl (fun w M => mem_rd M h2) (by omega) (by omega)) ?_
            refine gd_v (.free rfl) rfl rfl (qt_assign rfl rfl) ?_
            refine gd_v (.free rfl) rfl rfl (qt_assign rfl rfl) ?_
            refine gd_nil ?_
            refine gk_then (hK60 _ _ ?_)
            refine gc_draw (by kernel_rfl) ?_
            refine gd_v (.free rfl) rfl rfl (qt_move rfl rfl) ?_
            refine gd_v (.free rfl) rfl rfl (qt_move rfl rfl) ?_
            refine gd_v (.free rfl) rfl rfl (qt_neq rfl rfl rfl) ?_
            refine gd_splitv (.free rfl) rfl rfl (qt_move rfl rfl) (fun hs15_3 => ?_) (fun hs15_3 => ?_)
            · try simp only [decide_eq_true_eq, decide_eq_false_iff_not, Bool.not_eq_true', Bool.not_eq_false', Bool.not_eq_eq_eq_not, Bool.not_true, Bool.not_false, ne_eq, Decidable.not_not, Classical.not_not] at hs15_3
              refine gd_v (.held _ _ _ rfl rfl rfl) rfl rfl (qt_move rfl rfl) ?_
              refine gd_v (.held _ _ _ rfl rfl rfl) rfl rfl (qt_move rfl rfl) ?_
              refine gd_v (.held _ _ _ rfl rfl rfl) rfl rfl (qt_neq rfl rfl rfl) ?_
              refine gd_v (.free rfl) rfl rfl (qt_pick_t rfl rfl rfl) ?_
              refine gd_splitv (.free rfl) rfl rfl (qt_move rfl rfl) (fun hs15_8 => ?_) (fun hs15_8 => ?_)
              · try simp only [decide_eq_true_eq, decide_eq_false_iff_not, Bool.not_eq_true', Bool.not_eq_false', Bool.not_eq_eq_eq_not, Bool.not_true, Bool.not_false, ne_eq, Decidable.not_not, Classical.not_not] at hs15_8
                refine gd_skip (.not _ _ _ _ rfl rfl rfl rfl) rfl rfl ?_
                refine gd_skip (.not _ _ _ _ rfl rfl rfl rfl) rfl rfl ?_
                refine gd_skip (.not _ _ _ _ rfl rfl rfl rfl) rfl rfl ?_
                refine gd_skip (.not _ _ _ _ rfl rfl rfl rfl) rfl rfl ?_
                refine gd_skip (.not _ _ _ _ rfl rfl rfl rfl) rfl rfl ?_
                refine gd_v (.free rfl) rfl rfl (qt_pick_t rfl rfl rfl) ?_
                refine gd_v (.free rfl) rfl rfl (qt_move rfl rfl) ?_
                refine gd_skip (.not _ _ _ _ rfl rfl rfl rfl) rfl rfl ?_
                refine gd_skip (.not _ _ _ _ rfl rfl rfl rfl) rfl rfl ?_
                refine gd_skip (.not _ _ _ _ rfl rfl rfl rfl) rfl rfl ?_
                refine gd_skip (.not _ _ _ _ rfl rfl rfl rfl) rfl rfl ?_
                refine gd_skip (.not _ _ _ _ rfl rfl rfl rfl) rfl rfl ?_
                refine gd_v (.free rfl) rfl rfl (qt_pick_t rfl rfl rfl) ?_
                refine gd_v (.free rfl) rfl rfl (qt_move rfl rfl) ?_
                refine gd_skip (.not _ _ _ _ rfl rfl rfl rfl) rfl rfl ?_
                refine gd_skip (.not _ _ _ _ rfl rfl rfl rfl) rfl rfl ?_
                refine gd_skip (.not _ _ _ _ rfl rfl rfl rfl) rfl rfl ?_
                refine gd_skip (.not _ _ _ _ rfl rfl rfl rfl) rfl rfl ?_
                refine gd_skip (.not _ _ _ _ rfl rfl rfl rfl) rfl rfl ?_
                refine gd_skip (.not _ _ _ _ rfl rfl rfl rfl) rfl rfl ?_
                refine gd_skip (.not _ _ _ _ rfl rfl rfl rfl) rfl rfl ?_
                refine gd_skip (.not _ _ _ _ rfl rfl rfl rfl) rfl rfl ?_
                refine gd_skip (.not _ _ _ _ rfl rfl rfl rfl) rfl rfl ?_
                refine gd_skip (.not _ _ _ _ rfl rfl rfl rfl) rfl rfl ?_
                refine gd_skip (.not _ _ _ _ rfl rfl rfl rfl) rfl rfl ?_
                refine gd_v (.free rfl) rfl rfl (qt_pick_t rfl rfl rfl) ?_
                refine gd_v (.free rfl) rfl rfl (qt_assign rfl rfl) ?_
                refine gd_nil ?_
                refine gk_block ?_
                refine gk_then (hK59 _ _ ?_)
                refine gc_region ?_
                refine g_v (.free rfl) rfl rfl (qt_move rfl rfl) ?_
                refine g_v (.free rfl) rfl rfl (qt_add rfl rfl rfl (by omega)) ?_
                refine g_v (.free rfl) rfl rfl (qt_assign rfl rfl) ?_
                refine g_nil ?_
                refine gk_then (gk_take 5 ?_)
                refine gk_sub ?hs_61 (hKL56 (true, a + 1) ?hi_61 ?hm_61)
                case hs_61 => exact (sub_cons rfl (sub_cons rfl (sub_cons rfl (sub_cons rfl (sub_cons rfl (sub_cons rfl (sub_cons rfl (sub_cons rfl (sub_cons rfl (sub_cons rfl (sub_cons rfl (sub_cons rfl (sub_cons rfl (sub_cons rfl sub_nil))))))))))))))
                case hi_61 => subst hs12_1; exact fitL_t hL (by omega) (fun ht => by rcases ht with h | h <;> omega)
                case hm_61 => omega
              · try simp only [decide_eq_true_eq, decide_eq_false_iff_not, Bool.not_eq_true', Bool.not_eq_false', Bool.not_eq_eq_eq_not, Bool.not_true, Bool.not_false, ne_eq, Decidable.not_not, Classical.not_not] at hs15_8
                refine gd_v (.held _ _ _ rfl rfl rfl) rfl rfl (qt_move rfl rfl) ?_
                refine gd_v (.held _ _ _ rfl rfl rfl) rfl rfl (qt_move rfl rfl) ?_
                refine gd_v (.held _ _ _ rfl rfl rfl) rfl rfl (qt_index rfl rfl rfl ulE1 szE1 (fun w M => lenA_own1 (n := 4) rfl M) (by omega) (by rw [List.length_set]; omega)) ?_
                refine gd_v (.held _ _ _ rfl rfl rfl) rfl rfl (qt_load1 rfl rfl Tryd.underlying2 rfl (fun w M => (mem_own1 (n := 4) M rfl).rd) (by omega) (by rw [List.length_set]; omega)) ?_
                refine gd_v (.held _ _ _ rfl rfl rfl) rfl rfl (qt_lss rfl rfl rfl) ?_
                refine gd_v (.free rfl) rfl rfl (qt_pick_f rfl rfl rfl) ?_
                refine gd_splitv (.free rfl) rfl rfl (qt_move rfl rfl) (fun hs15_15 => ?_) (fun hs15_15 => ?_)
                · try simp only [decide_eq_true_eq, decide_eq_false_iff_not, Bool.not_eq_true', Bool.not_eq_false', Bool.not_eq_eq_eq_not, Bool.not_true, Bool.not_false, ne_eq, Decidable.not_not, Classical.not_not] at hs15_15
                  refine gd_skip (.not _ _ _ _ rfl rfl rfl rfl) rfl rfl ?_
                  refine gd_skip (.not _ _ _ _ rfl rfl rfl rfl) rfl rfl ?_
                  refine gd_skip (.not _ _ _ _ rfl rfl rfl rfl) rfl rfl ?_
                  refine gd_skip (.not _ _ _ _ rfl rfl rfl rfl) rfl rfl ?_
                  refine gd_skip (.not _ _ _ _ rfl rfl rfl rfl) rfl rfl ?_
                  refine gd_v (.free rfl) rfl rfl (qt_pick_t rfl rfl rfl) ?_
                  refine gd_v (.free rfl) rfl rfl (qt_move rfl rfl) ?_
                  refine gd_skip (.not _ _ _ _ rfl rfl rfl rfl) rfl rfl ?_
                  refine gd_skip (.not _ _ _ _ rfl rfl rfl rfl) rfl rfl ?_
                  refine gd_skip (.not _ _ _ _ rfl rfl rfl rfl) rfl rfl ?_
                  refine gd_skip (.not _ _ _ _ rfl rfl rfl rfl) rfl rfl ?_
                  refine gd_skip (.not _ _ _ _ rfl rfl rfl rfl) rfl rfl ?_
                  refine gd_skip (.not _ _ _ _ rfl rfl rfl rfl) rfl rfl ?_
                  refine gd_skip (.not _ _ _ _ rfl rfl rfl rfl) rfl rfl ?_
                  refine gd_skip (.not _ _ _ _ rfl rfl rfl rfl) rfl rfl ?_
                  refine gd_skip (.not _ _ _ _ rfl rfl rfl rfl) rfl rfl ?_
                  refine gd_skip (.not _ _ _ _ rfl rfl rfl rfl) rfl rfl ?_
                  refine gd_skip (.not _ _ _ _ rfl rfl rfl rfl) rfl rfl ?_
                  refine gd_v (.free rfl) rfl rfl (qt_pick_t rfl rfl rfl) ?_
                  refine gd_v (.free rfl) rfl rfl (qt_assign rfl rfl) ?_
                  refine gd_nil ?_
                  refine gk_block ?_
                  refine gk_then (hK59 _ _ ?_)
                  refine gc_region ?_
                  refine g_v (.free rfl) rfl rfl (qt_move rfl rfl) ?_
                  refine g_v (.free rfl) rfl rfl (qt_add rfl rfl rfl (by omega)) ?_
                  refine g_v (.free rfl) rfl rfl (qt_assign rfl rfl) ?_
                  refine g_nil ?_
                  refine gk_then (gk_take 5 ?_)
                  refine gk_sub ?hs_62 (hKL56 (true, a + 1) ?hi_62 ?hm_62)
                  case hs_62 => exact (sub_cons rfl (sub_cons rfl (sub_cons rfl (sub_cons rfl (sub_cons rfl (sub_cons rfl (sub_cons rfl (sub_cons rfl (sub_cons rfl (sub_cons rfl (sub_cons rfl (sub_cons rfl (sub_cons rfl (sub_cons rfl sub_nil))))))))))))))
                  case hi_62 => subst hs12_1; exact fitL_t hL (by omega) (fun _ => .inl hs15_15)
                  case hm_62 => omega
                · try simp only [decide_eq_true_eq, decide_eq_false_iff_not, Bool.not_eq_true', Bool.not_eq_false', Bool.not_eq_eq_eq_not, Bool.not_true, Bool.not_false, ne_eq, Decidable.not_not, Classical.not_not] at hs15_15
                  refine gd_v (.held _ _ _ rfl rfl rfl) rfl rfl (qt_move rfl rfl) ?_
                  refine gd_v (.held _ _ _ rfl rfl rfl) rfl rfl (qt_move rfl rfl) ?_
                  refine gd_v (.held _ _ _ rfl rfl rfl) rfl rfl (qt_index rfl rfl rfl ulE1 szE1 (fun w M => lenA_own1 (n := 4) rfl M) (by omega) (by rw [List.length_set]; omega)) ?_
                  refine gd_v (.held _ _ _ rfl rfl rfl) rfl rfl (qt_load1 rfl rfl Tryd.underlying2 rfl (fun w M => (mem_own1 (n := 4) M rfl).rd) (by omega) (by rw [List.length_set]; omega)) ?_
                  refine gd_v (.held _ _ _ rfl rfl rfl) rfl rfl (qt_lss rfl rfl rfl) ?_
                  refine gd_v (.free rfl) rfl rfl (qt_pick_f rfl rfl rfl) ?_
                  refine gd_splitv (.free rfl) rfl rfl (qt_move rfl rfl) (fun hs15_22 => ?_) (fun hs15_22 => ?_)
                  · try simp only [decide_eq_true_eq, decide_eq_false_iff_not, Bool.not_eq_true', Bool.not_eq_false', Bool.not_eq_eq_eq_not, Bool.not_true, Bool.not_false, ne_eq, Decidable.not_not, Classical.not_not] at hs15_22
                    refine gd_skip (.not _ _ _ _ rfl rfl rfl rfl) rfl rfl ?_
                    refine gd_skip (.not _ _ _ _ rfl rfl rfl rfl) rfl rfl ?_
                    refine gd_skip (.not _ _ _ _ rfl rfl rfl rfl) rfl rfl ?_
                    refine gd_skip (.not _ _ _ _ rfl rfl rfl rfl) rfl rfl ?_
                    refine gd_skip (.not _ _ _ _ rfl rfl rfl rfl) rfl rfl ?_
                    refine gd_skip (.not _ _ _ _ rfl rfl rfl rfl) rfl rfl ?_
                    refine gd_skip (.not _ _ _ _ rfl rfl rfl rfl) rfl rfl ?_
                    refine gd_skip (.not _ _ _ _ rfl rfl rfl rfl) rfl rfl ?_
                    refine gd_skip (.not _ _ _ _ rfl rfl rfl rfl) rfl rfl ?_
                    refine gd_skip (.not _ _ _ _ rfl rfl rfl rfl) rfl rfl ?_
                    refine gd_skip (.not _ _ _ _ rfl rfl rfl rfl) rfl rfl ?_
                    refine gd_v (.free rfl) rfl rfl (qt_pick_t rfl rfl rfl) ?_
                    refine gd_v (.free rfl) rfl rfl (qt_assign rfl rfl) ?_
                    refine gd_nil ?_
                    refine gk_block ?_
                    refine gk_then (hK59 _ _ ?_)
                    refine gc_region ?_
                    refine g_v (.free rfl) rfl rfl (qt_move rfl rfl) ?_
                    refine g_v (.free rfl) rfl rfl (qt_add rfl rfl rfl (by omega)) ?_
                    refine g_v (.free rfl) rfl rfl (qt_assign rfl rfl) ?_
                    refine g_nil ?_
                    refine gk_then (gk_take 5 ?_)
                    refine gk_sub ?hs_63 (hKL56 (true, a + 1) ?hi_63 ?hm_63)
                    case hs_63 => exact (sub_cons rfl (sub_cons rfl (sub_cons rfl (sub_cons rfl (sub_cons rfl (sub_cons rfl (sub_cons rfl (sub_cons rfl (sub_cons rfl (sub_cons rfl (sub_cons rfl (sub_cons rfl (sub_cons rfl (sub_cons rfl sub_nil))))))))))))))
                    case hi_63 => subst hs12_1; exact fitL_t hL (by omega) (fun _ => .inr (.inl hs15_22))
                    case hm_63 => omega
                  · try simp only [decide_eq_true_eq, decide_eq_false_iff_not, Bool.not_eq_true', Bool.not_eq_false', Bool.not_eq_eq_eq_not, Bool.not_true, Bool.not_false, ne_eq, Decidable.not_not, Classical.not_not] at hs15_22
                    refine gd_v (.held _ _ _ rfl rfl rfl) rfl rfl (qt_move rfl rfl) ?_
                    refine gd_v (.held _ _ _ rfl rfl rfl) rfl rfl (qt_nilP rfl rfl) ?_
                    refine gd_v (.held _ _ _ rfl rfl rfl) rfl rfl (qt_field (z := 11) (off := 0) rfl rfl Tryd.underlying106 rfl (by kernel_rfl) rfl) ?_
                    refine gd_v (.held _ _ _ rfl rfl rfl) rfl rfl (qt_loadRQ hbB (z := 12) rfl rfl Tryd.underlying45 rfl (by kernel_rfl) (by simp)) ?_
                    refine gd_v (.held _ _ _ rfl rfl rfl) rfl rfl (qt_move rfl rfl) ?_
                    refine gd_v (.held _ _ _ rfl rfl rfl) rfl rfl (qt_nilP rfl rfl) ?_
                    refine gd_v (.held _ _ _ rfl rfl rfl) rfl rfl (qt_field (z := 11) (off := 12) rfl rfl Tryd.underlying106 rfl (by kernel_rfl) rfl) ?_
                    refine gd_v (.held _ _ _ rfl rfl rfl) rfl rfl (qt_loadRQ hbB (z := 12) rfl rfl Tryd.underlying45 rfl (by kernel_rfl) (by simp)) ?_
                    refine gd_v (.held _ _ _ rfl rfl rfl) rfl rfl (qt_move rfl rfl) ?_
                    refine gd_v (.held _ _ _ rfl rfl rfl) rfl rfl (qt_move rfl rfl) ?_
                    refine gd_q (.held _ _ _ rfl rfl rfl) rfl rfl (qt_call rfl Tryd.func127 rfl (by decide) rfl (fun w M => specSquare_any w _ _ _ _ _ _ (rdF_mk (mem_rd M h1) (mem_rd M h2) (mem_rd M h3) (mem_rd2 M h4) (mem_rd M h5) (mem_rd M h6) (mem_rd M h7) (mem_rd2 M h8) (mem_rd M h9) (mem_rd M h10)) (rdF_mk (mem_rd M e1) (mem_rd M e2) (mem_rd M e3) (mem_rd2 M e4) (mem_rd M e5) (mem_rd M e6) (mem_rd M e7) (mem_rd2 M e8) (mem_rd M e9) (mem_rd M e10)) ((mem_own1 (n := 4) M rfl).rd) (a) (sqB_of hF hG hp (by rw [List.length_set]; exact hlc) (by omega) (by omega) (by omega) (inC_at hi2 (by omega) (by rw [List.length_set]; omega)) (by omega) (inC_at hi2 (by omega) (by rw [List.length_set]; omega))))) ?_
                    refine gd_v (.free rfl) rfl rfl (qt_pick_f rfl rfl rfl) ?_
                    refine gd_v (.free rfl) rfl rfl (qt_assign rfl rfl) ?_
                    refine gd_nil ?_
                    refine gk_block ?_
                    refine gk_then (hK59 _ _ ?_)
                    refine gc_region ?_
                    refine g_v (.free rfl) rfl rfl (qt_move rfl rfl) ?_
                    refine g_v (.free rfl) rfl rfl (qt_add rfl rfl rfl (by omega)) ?_
                    refine g_v (.free rfl) rfl rfl (qt_assign rfl rfl) ?_
                    refine g_nil ?_
                    refine gk_then (gk_take 5 ?_)
                    refine gk_sub ?hs_64 (hKL56 (bP (SqP F G (c.set x (at0 (homTo F.T (at0 F.o (x : Int)) (at0 G.o (x : Int)) F.T.s.length) (k : Int))) a), a + 1) ?hi_64 ?hm_64)
                    case hs_64 => exact (sub_cons rfl (sub_cons rfl (sub_cons rfl (sub_cons rfl (sub_cons rfl (sub_cons rfl (sub_cons rfl (sub_cons rfl (sub_cons rfl (sub_cons rfl (sub_cons rfl (sub_cons rfl (sub_cons rfl (sub_cons rfl sub_nil))))))))))))))
                    case hi_64 => subst hs12_1; exact fitL_b hL (by omega) (.inr (by omega)) (by omega) (by omega)
                    case hm_64 => omega
            · try simp only [decide_eq_true_eq, decide_eq_false_iff_not, Bool.not_eq_true', Bool.not_eq_false', Bool.not_eq_eq_eq_not, Bool.not_true, Bool.not_false, ne_eq, Decidable.not_not, Classical.not_not] at hs15_3
              refine gd_skip (.not _ _ _ _ rfl rfl rfl rfl) rfl rfl ?_
              refine gd_skip (.not _ _ _ _ rfl rfl rfl rfl) rfl rfl ?_
              refine gd_skip (.not _ _ _ _ rfl rfl rfl rfl) rfl rfl ?_
              refine gd_v (.free rfl) rfl rfl (qt_pick_f rfl rfl rfl) ?_
              refine gd_v (.free rfl) rfl rfl (qt_move rfl rfl) ?_
              refine gd_v (.held _ _ _ rfl rfl rfl) rfl rfl (qt_move rfl rfl) ?_
              refine gd_v (.held _ _ _ rfl rfl rfl) rfl rfl (qt_move rfl rfl) ?_
              refine gd_v (.held _ _ _ rfl rfl rfl) rfl rfl (qt_index rfl rfl rfl ulE1 szE1 (fun w M => lenA_own1 (n := 4) rfl M) (by omega) (by rw [List.length_set]; omega)) ?_
              refine gd_v (.held _ _ _ rfl rfl rfl) rfl rfl (qt_load1 rfl rfl Tryd.underlying2 rfl (fun w M => (mem_own1 (n := 4) M rfl).rd) (by omega) (by rw [List.length_set]; omega)) ?_
              refine gd_v (.held _ _ _ rfl rfl rfl) rfl rfl (qt_lss rfl rfl rfl) ?_
              refine gd_v (.free rfl) rfl rfl (qt_pick_f rfl rfl rfl) ?_
              refine gd_splitv (.free rfl) rfl rfl (qt_move rfl rfl) (fun hs15_15 => ?_) (fun hs15_15 => ?_)
              · try simp only [decide_eq_true_eq, decide_eq_false_iff_not, Bool.not_eq_true', Bool.not_eq_false', Bool.not_eq_eq_eq_not, Bool.not_true, Bool.not_false, ne_eq, Decidable.not_not, Classical.not_not] at hs15_15
                refine gd_skip (.not _ _ _ _ rfl rfl rfl rfl) rfl rfl ?_
                refine gd_skip (.not _ _ _ _ rfl rfl rfl rfl) rfl rfl ?_
                refine gd_skip (.not _ _ _ _ rfl rfl rfl rfl) rfl rfl ?_
                refine gd_skip (.not _ _ _ _ rfl rfl rfl rfl) rfl rfl ?_
                refine gd_skip (.not _ _ _ _ rfl rfl rfl rfl) rfl rfl ?_
                refine gd_v (.free rfl) rfl rfl (qt_pick_t rfl rfl rfl) ?_
                refine gd_v (.free rfl) rfl rfl (qt_move rfl rfl) ?_
                refine gd_skip (.not _ _ _ _ rfl rfl rfl rfl) rfl rfl ?_
                refine gd_skip (.not _ _ _ _ rfl rfl rfl rfl) rfl rfl ?_
                refine gd_skip (.not _ _ _ _ rfl rfl rfl rfl) rfl rfl ?_
                refine gd_skip (.not _ _ _ _ rfl rfl rfl rfl) rfl rfl ?_
                refine gd_skip (.not _ _ _ _ rfl rfl rfl rfl) rfl rfl ?_
                refine gd_skip (.not _ _ _ _ rfl rfl rfl rfl) rfl rfl ?_
                refine gd_skip (.not _ _ _ _ rfl rfl rfl rfl) rfl rfl ?_
                refine gd_skip (.not _ _ _ _ rfl rfl rfl rfl) rfl rfl ?_
                refine gd_skip (.not _ _ _ _ rfl rfl rfl rfl) rfl rfl ?_
                refine gd_skip (.not _ _ _ _ rfl rfl rfl rfl) rfl rfl ?_
                refine gd_skip (.not _ _ _ _ rfl rfl rfl rfl) rfl rfl ?_
                refine gd_v (.free rfl) rfl rfl (qt_pick_t rfl rfl rfl) ?_
                refine gd_v (.free rfl) rfl rfl (qt_assign rfl rfl) ?_
                refine gd_nil ?_
                refine gk_block ?_
                refine gk_then (hK59 _ _ ?_)
                refine gc_region ?_
                refine g_v (.free rfl) rfl rfl (qt_move rfl rfl) ?_
                refine g_v (.free rfl) rfl rfl (qt_add rfl rfl rfl (by omega)) ?_
                refine g_v (.free rfl) rfl rfl (qt_assign rfl rfl) ?_
                refine g_nil ?_
                refine gk_then (gk_take 5 ?_)
                refine gk_sub ?hs_65 (hKL56 (true, a + 1) ?hi_65 ?hm_65)
                case hs_65 => exact (sub_cons rfl (sub_cons rfl (sub_cons rfl (sub_cons rfl (sub_cons rfl (sub_cons rfl (sub_cons rfl (sub_cons rfl (sub_cons rfl (sub_cons rfl (sub_cons rfl (sub_cons rfl (sub_cons rfl (sub_cons rfl sub_nil))))))))))))))
                case hi_65 => subst hs12_1; exact fitL_t hL (by omega) (fun _ => .inl hs15_15)
                case hm_65 => omega
              · try simp only [decide_eq_true_eq, decide_eq_false_iff_not, Bool.not_eq_true', Bool.not_eq_false', Bool.not_eq_eq_eq_not, Bool.not_true, Bool.not_false, ne_eq, Decidable.not_not, Classical.not_not] at hs15_15
                refine gd_v (.held _ _ _ rfl rfl rfl) rfl rfl (qt_move rfl rfl) ?_
                refine gd_v (.held _ _ _ rfl rfl rfl) rfl rfl (qt_move rfl rfl) ?_
                refine gd_v (.held _ _ _ rfl rfl rfl) rfl rfl (qt_index rfl rfl rfl ulE1 szE1 (fun w M => lenA_own1 (n := 4) rfl M) (by omega) (by rw [List.length_set]; omega)) ?_
                refine gd_v (.held _ _ _ rfl rfl rfl) rfl rfl (qt_load1 rfl rfl Tryd.underlying2 rfl (fun w M => (mem_own1 (n := 4) M rfl).rd) (by omega) (by rw [List.length_set]; omega)) ?_
                refine gd_v (.held _ _ _ rfl rfl rfl) rfl rfl (qt_lss rfl rfl rfl) ?_
                refine gd_v (.free rfl) rfl rfl (qt_pick_f rfl rfl rfl) ?_
                refine gd_splitv (.free rfl) rfl rfl (qt_move rfl rfl) (fun hs15_22 => ?_) (fun hs15_22 => ?_)
                · try simp only [decide_eq_true_eq, decide_eq_false_iff_not, Bool.not_eq_true', Bool.not_eq_false', Bool.not_eq_eq_eq_not, Bool.not_true, Bool.not_false, ne_eq, Decidable.not_not, Classical.not_not] at hs15_22
                  refine gd_skip (.not _ _ _ _ rfl rfl rfl rfl) rfl rfl ?_
                  refine gd_skip (.not _ _ _ _ rfl rfl rfl rfl) rfl rfl ?_
                  refine gd_skip (.not _ _ _ _ rfl rfl rfl rfl) rfl rfl ?_
                  refine gd_skip (.not _ _ _ _ rfl rfl rfl rfl) rfl rfl ?_
                  refine gd_skip (.not _ _ _ _ rfl rfl rfl rfl) rfl rfl ?_
                  refine gd_skip (.not _ _ _ _ rfl rfl rfl rfl) rfl rfl ?_
                  refine gd_skip (.not _ _ _ _ rfl rfl rfl rfl) rfl rfl ?_
                  refine gd_skip (.not _ _ _ _ rfl rfl rfl rfl) rfl rfl ?_
                  refine gd_skip (.not _ _ _ _ rfl rfl rfl rfl) rfl rfl ?_
                  refine gd_skip (.not _ _ _ _ rfl rfl rfl rfl) rfl rfl ?_
                  refine gd_skip (.not _ _ _ _ rfl rfl rfl rfl) rfl rfl ?_
                  refine gd_v (.free rfl) rfl rfl (qt_pick_t rfl rfl rfl) ?_
                  refine gd_v (.free rfl) rfl rfl (qt_assign rfl rfl) ?_
                  refine gd_nil ?_
                  refine gk_block ?_
                  refine gk_then (hK59 _ _ ?_)
                  refine gc_region ?_
                  refine g_v (.free rfl) rfl rfl (qt_move rfl rfl) ?_
                  refine g_v (.free rfl) rfl rfl (qt_add rfl rfl rfl (by omega)) ?_
                  refine g_v (.free rfl) rfl rfl (qt_assign rfl rfl) ?_
                  refine g_nil ?_
                  refine gk_then (gk_take 5 ?_)
                  refine gk_sub ?hs_66 (hKL56 (true, a + 1) ?hi_66 ?hm_66)
                  case hs_66 => exact (sub_cons rfl (sub_cons rfl (sub_cons rfl (sub_cons rfl (sub_cons rfl (sub_cons rfl (sub_cons rfl (sub_cons rfl (sub_cons rfl (sub_cons rfl (sub_cons rfl (sub_cons rfl (sub_cons rfl (sub_cons rfl sub_nil))))))))))))))
                  case hi_66 => subst hs12_1; exact fitL_t hL (by omega) (fun _ => .inr (.inl hs15_22))
                  case hm_66 => omega
                · try simp only [decide_eq_true_eq, decide_eq_false_iff_not, Bool.not_eq_true', Bool.not_eq_false', Bool.not_eq_eq_eq_not, Bool.not_true, Bool.not_false, ne_eq, Decidable.not_not, Classical.not_not] at hs15_22
                  refine gd_v (.held _ _ _ rfl rfl rfl) rfl rfl (qt_move rfl rfl) ?_
                  refine gd_v (.held _ _ _ rfl rfl rfl) rfl rfl (qt_nilP rfl rfl) ?_
                  refine gd_v (.held _ _ _ rfl rfl rfl) rfl rfl (qt_field (z := 11) (off := 0) rfl rfl Tryd.underlying106 rfl (by kernel_rfl) rfl) ?_
                  refine gd_v (.held _ _ _ rfl rfl rfl) rfl rfl (qt_loadRQ hbB (z := 12) rfl rfl Tryd.underlying45 rfl (by kernel_rfl) (by simp)) ?_
                  refine gd_v (.held _ _ _ rfl rfl rfl) rfl rfl (qt_move rfl rfl) ?_
                  refine gd_v (.held _ _ _ rfl rfl rfl) rfl rfl (qt_nilP rfl rfl) ?_
                  refine gd_v (.held _ _ _ rfl rfl rfl) rfl rfl (qt_field (z := 11) (off := 12) rfl rfl Tryd.underlying106 rfl (by kernel_rfl) rfl) ?_
                  refine gd_v (.held _ _ _ rfl rfl rfl) rfl rfl (qt_loadRQ hbB (z := 12) rfl rfl Tryd.underlying45 rfl (by kernel_rfl) (by simp)) ?_
                  refine gd_v (.held _ _ _ rfl rfl rfl) rfl rfl (qt_move rfl rfl) ?_
                  refine gd_v (.held _ _ _ rfl rfl rfl) rfl rfl (qt_move rfl rfl) ?_
                  refine gd_q (.held _ _ _ rfl rfl rfl) rfl rfl (qt_call rfl Tryd.func127 rfl (by decide) rfl (fun w M => specSquare_any w _ _ _ _ _ _ (rdF_mk (mem_rd M h1) (mem_rd M h2) (mem_rd M h3) (mem_rd2 M h4) (mem_rd M h5) (mem_rd M h6) (mem_rd M h7) (mem_rd2 M h8) (mem_rd M h9) (mem_rd M h10)) (rdF_mk (mem_rd M e1) (mem_rd M e2) (mem_rd M e3) (mem_rd2 M e4) (mem_rd M e5) (mem_rd M e6) (mem_rd M e7) (mem_rd2 M e8) (mem_rd M e9) (mem_rd M e10)) ((mem_own1 (n := 4) M rfl).rd) (a) (sqB_of hF hG hp (by rw [List.length_set]; exact hlc) (by omega) (by omega) (by omega) (inC_at hi2 (by omega) (by rw [List.length_set]; omega)) (by omega) (inC_at hi2 (by omega) (by rw [List.length_set]; omega))))) ?_
                  refine gd_v (.free rfl) rfl rfl (qt_pick_f rfl rfl rfl) ?_
                  refine gd_v (.free rfl) rfl rfl (qt_assign rfl rfl) ?_
                  refine gd_nil ?_
                  refine gk_block ?_
                  refine gk_then (hK59 _ _ ?_)
                  refine gc_region ?_
                  refine g_v (.free rfl) rfl rfl (qt_move rfl rfl) ?_
                  refine g_v (.free rfl) rfl rfl (qt_add rfl rfl rfl (by omega)) ?_
                  refine g_v (.free rfl) rfl rfl (qt_assign rfl rfl) ?_
                  refine g_nil ?_
                  refine gk_then (gk_take 5 ?_)
                  refine gk_sub ?hs_67 (hKL56 (bP (SqP F G (c.set x (at0 (homTo F.T (at0 F.o (x : Int)) (at0 G.o (x : Int)) F.T.s.length) (k : Int))) a), a + 1) ?hi_67 ?hm_67)
                  case hs_67 => exact (sub_cons rfl (sub_cons rfl (sub_cons rfl (sub_cons rfl (sub_cons rfl (sub_cons rfl (sub_cons rfl (sub_cons rfl (sub_cons rfl (sub_cons rfl (sub_cons rfl (sub_cons rfl (sub_cons rfl (sub_cons rfl sub_nil))))))))))))))
                  case hi_67 => subst hs12_1; exact fitL_b hL (by omega) (.inl (by omega)) (by omega) (by omega)
                  case hm_67 => omega
          · try simp only [decide_eq_true_eq, decide_eq_false_iff_not, Bool.not_eq_true', Bool.not_eq_false', Bool.not_eq_eq_eq_not, Bool.not_true, Bool.not_false, ne_eq, Decidable.not_not, Classical.not_not] at hc5
            refine gc_exit ?_
            refine gk_then_exit ?_
            refine gk_then_exit ?_
            refine gk_block_hit ?_
            refine gk_then (hK54 _ _ ?_)
            refine gc_seq fun K68 hK68 => ?_
            refine gc_region ?_
            refine g_v (.free rfl) rfl rfl (qt_move rfl rfl) ?_
            refine g_nil ?_
            refine gk_then (hK68 _ _ ?_)
            refine gc_cond rfl (fun hc6 => ?_) (fun hc6 => ?_)
            · try simp only [decide_eq_true_eq, decide_eq_false_iff_not, Bool.not_eq_true', Bool.not_eq_false', Bool.not_eq_eq_eq_not, Bool.not_true, Bool.not_false, ne_eq, Decidable.not_not, Classical.not_not] at hc6
              refine gc_region ?_
              refine g_v (.free rfl) rfl rfl (qt_move rfl rfl) ?_
              refine g_v (.free rfl) rfl rfl (qt_move rfl rfl) ?_
              refine g_v (.free rfl) rfl rfl (qt_move rfl rfl) ?_
              refine g_v (.free rfl) rfl rfl (qt_index rfl rfl rfl ulE1 szE1 (fun w M => lenA_own1 (n := 2) rfl M) (by omega) (by omega)) ?_
              refine g_v (.free rfl) rfl rfl (qt_load1 rfl rfl Tryd.underlying2 rfl (fun w M => (mem_own1 (n := 2) M rfl).rd) (by omega) (by omega)) ?_
              refine g_op (.free rfl) fun K70 hK70 => ?_
              refine go_slice1 rfl rfl rfl rfl Tryd.underlying22 ?_
              intro B69
              refine hK70 _ _ ?_
              refine g_op (.free rfl) fun K72 hK72 => ?_
              refine go_append (n := 3) (m := 5) rfl rfl rfl Tryd.underlying22 rfl rfl rfl rfl (by omega) ?_
              intro va71 vc71
              refine hK72 _ _ ?_
              refine g_v (.free rfl) rfl rfl (qt_assign rfl rfl) ?_
              refine g_nil ?_
              refine gk_block ?_
              refine gk_then (hK15 _ _ ?_)
              refine gc_region ?_
              refine g_v (.free rfl) rfl rfl (qt_move rfl rfl) ?_
              refine g_v (.free rfl) rfl rfl (qt_add rfl rfl rfl (by omega)) ?_
              refine g_v (.free rfl) rfl rfl (qt_assign rfl rfl) ?_
              refine g_nil ?_
              first | rw [outL_f (by omega) (.inr (kapS_f (by assumption) (by omega)))] | rw [outL_f (by omega) (.inl (hL.f (by assumption)))] | simp only [outL_t (by omega) (fitL_end' hL (by assumption) (by omega)) hkt] | (exfalso; simp_all; done)
              refine gk_then (gk_take 4 ?_)
              refine gk_sub ?hs_73 (hKL12 (k + 1, _, _) ?hi_73 ?hm_73)
              case hs_73 => exact (sub_cons rfl (sub_cons rfl (sub_cons rfl (sub_cons rfl (sub_cons rfl (sub_cons rfl (sub_cons rfl (sub_cons rfl (sub_cons rfl sub_nil)))))))))
              case hi_73 => omega
              case hm_73 => omega
            · try simp only [decide_eq_true_eq, decide_eq_false_iff_not, Bool.not_eq_true', Bool.not_eq_false', Bool.not_eq_eq_eq_not, Bool.not_true, Bool.not_false, ne_eq, Decidable.not_not, Classical.not_not] at hc6
              refine gc_skip ?_
              refine gk_block ?_
              refine gk_then (hK15 _ _ ?_)
              refine gc_region ?_
              refine g_v (.free rfl) rfl rfl (qt_move rfl rfl) ?_
              refine g_v (.free rfl) rfl rfl (qt_add rfl rfl rfl (by omega)) ?_
              refine g_v (.free rfl) rfl rfl (qt_assign rfl rfl) ?_
              refine g_nil ?_
              first | rw [outL_f (by omega) (.inr (kapS_f (by assumption) (by omega)))] | rw [outL_f (by omega) (.inl (hL.f (by assumption)))] | simp only [outL_t (by omega) (fitL_end' hL (by assumption) (by omega)) hkt] | (exfalso; simp_all; done)
              refine gk_then (gk_take 4 ?_)
              refine gk_sub ?hs_74 (hKL12 (k + 1, _, _) ?hi_74 ?hm_74)
              case hs_74 => exact (sub_cons rfl (sub_cons rfl (sub_cons rfl (sub_cons rfl (sub_cons rfl (sub_cons rfl (sub_cons rfl (sub_cons rfl (sub_cons rfl sub_nil)))))))))
              case hi_74 => omega
              case hm_74 => omega
        · try simp only [decide_eq_true_eq, decide_eq_false_iff_not, Bool.not_eq_true', Bool.not_eq_false', Bool.not_eq_eq_eq_not, Bool.not_true, Bool.not_false, ne_eq, Decidable.not_not, Classical.not_not] at hs12_1
          refine g_skip (.not _ _ _ _ rfl rfl rfl rfl) rfl rfl ?_
          refine g_skip (.not _ _ _ _ rfl rfl rfl rfl) rfl rfl ?_
          refine g_skip (.not _ _ _ _ rfl rfl rfl rfl) rfl rfl ?_
          refine g_skip (.not _ _ _ _ rfl rfl rfl rfl) rfl rfl ?_
          refine g_skip (.not _ _ _ _ rfl rfl rfl rfl) rfl rfl ?_
          refine g_skip (.not _ _ _ _ rfl rfl rfl rfl) rfl rfl ?_
          refine g_skip (.not _ _ _ _ rfl rfl rfl rfl) rfl rfl ?_
          refine g_skip (.not _ _ _ _ rfl rfl rfl rfl) rfl rfl ?_
          refine g_v (.free rfl) rfl rfl (qt_pick_f rfl rfl rfl) ?_
          refine g_nil ?_
          refine gk_then (hK58 _ _ ?_)
          refine gc_cond_f rfl ?_
          refine gc_exit ?_
          refine gk_then_exit ?_
          refine gk_then_exit ?_
          refine gk_block_hit ?_
          refine gk_then (hK54 _ _ ?_)
          refine gc_seq fun K75 hK75 => ?_
          refine gc_region ?_
          refine g_v (.free rfl) rfl rfl (qt_move rfl rfl) ?_
          refine g_nil ?_
          refine gk_then (hK75 _ _ ?_)
          refine gc_cond rfl (fun hc7 => ?_) (fun hc7 => ?_)
          · try simp only [decide_eq_true_eq, decide_eq_false_iff_not, Bool.not_eq_true', Bool.not_eq_false', Bool.not_eq_eq_eq_not, Bool.not_true, Bool.not_false, ne_eq, Decidable.not_not, Classical.not_not] at hc7
            rw [hs12_1] at hc7; exact Bool.noConfusion hc7
          · try simp only [decide_eq_true_eq, decide_eq_false_iff_not, Bool.not_eq_true', Bool.not_eq_false', Bool.not_eq_eq_eq_not, Bool.not_true, Bool.not_false, ne_eq, Decidable.not_not, Classical.not_not] at hc7
            refine gc_skip ?_
            refine gk_block ?_
            refine gk_then (hK15 _ _ ?_)
            refine gc_region ?_
            refine g_v (.free rfl) rfl rfl (qt_move rfl rfl) ?_
            refine g_v (.free rfl) rfl rfl (qt_add rfl rfl rfl (by omega)) ?_
            refine g_v (.free rfl) rfl rfl (qt_assign rfl rfl) ?_
            refine g_nil ?_
            first | rw [outL_f (by omega) (.inr (kapS_f (by assumption) (by omega)))] | rw [outL_f (by omega) (.inl (hL.f (by assumption)))] | simp only [outL_t (by omega) (fitL_end' hL (by assumption) (by omega)) hkt] | (exfalso; simp_all; done)
            refine gk_then (gk_take 4 ?_)
            refine gk_sub ?hs_76 (hKL12 (k + 1, _, _) ?hi_76 ?hm_76)
            case hs_76 => exact (sub_cons rfl (sub_cons rfl (sub_cons rfl (sub_cons rfl (sub_cons rfl (sub_cons rfl (sub_cons rfl (sub_cons rfl (sub_cons rfl sub_nil)))))))))
            case hi_76 => omega
            case hm_76 => omega
    · try simp only [decide_eq_true_eq, decide_eq_false_iff_not, Bool.not_eq_true', Bool.not_eq_false', Bool.not_eq_eq_eq_not, Bool.not_true, Bool.not_false, ne_eq, Decidable.not_not, Classical.not_not] at hc0
      refine gc_exit ?_
      refine gk_then_exit ?_
      refine gk_then_exit ?_
      refine gk_block_hit ?_
      refine gk_then (hK10 _ _ ?_)
      refine gc_seq fun K77 hK77 => ?_
      refine gc_region ?_
      refine g_v (.free rfl) rfl rfl (qt_move rfl rfl) ?_
      refine g_v (.free rfl) rfl rfl (qt_assign rfl rfl) ?_
      refine g_nil ?_
      refine gk_then (hK77 _ _ ?_)
      refine gc_ret ?_
      refine ret_1 rfl rfl  (fun w M => ?_)
      obtain rfl : k = (homTo F.T (at0 F.o (x : Int)) (at0 G.o (x : Int)) F.T.s.length).length := by omega
      rw [outL_end] at M
      rw [outL_end]
      exact ⟨_, rfl, mem_own1 (n := 3) M rfl, M.1⟩
  simp only [updL, List.foldl_cons, List.foldl_nil, List.set_cons_succ, List.set_cons_zero, List.cons_append, List.nil_append] at HJ3
  refine ga_start _ (fun w M => M) ?_
  refine ga_v 0 rfl (by kernel_rfl) (by kernel_rfl) (by kernel_rfl) (.free rfl) rfl rfl (qt_move rfl rfl) (fun _ _ _ h => h) ?_
  refine ga_v 1 rfl (by kernel_rfl) (by kernel_rfl) (by kernel_rfl) (.free rfl) rfl rfl (qt_nilP rfl rfl) (fun _ _ _ h => h) ?_
  refine ga_v 2 rfl (by kernel_rfl) (by kernel_rfl) (by kernel_rfl) (.free rfl) rfl rfl (qt_field (z := 11) (off := 0) rfl rfl Tryd.underlying106 rfl (by kernel_rfl) rfl) (fun _ _ _ h => h) ?_
  refine ga_v 3 rfl (by kernel_rfl) (by kernel_rfl) (by kernel_rfl) (.free rfl) rfl rfl (qt_field (z := 4) (off := 0) rfl rfl Tryd.underlying45 rfl (by kernel_rfl) rfl) (fun _ _ _ h => h) ?_
  refine ga_v 4 rfl (by kernel_rfl) (by kernel_rfl) (by kernel_rfl) (.free rfl) rfl rfl (qt_loadRQ hbB (z := 5) rfl rfl Tryd.underlying30 rfl (by kernel_rfl) (by simp)) (fun _ _ _ h => h) ?_
  refine ga_v 5 rfl (by kernel_rfl) (by kernel_rfl) (by kernel_rfl) (.free rfl) rfl rfl (qt_move rfl rfl) (fun _ _ _ h => h) ?_
  refine ga_v 6 rfl (by kernel_rfl) (by kernel_rfl) (by kernel_rfl) (.free rfl) rfl rfl (qt_nilP rfl rfl) (fun _ _ _ h => h) ?_
  refine ga_v 7 rfl (by kernel_rfl) (by kernel_rfl) (by kernel_rfl) (.free rfl) rfl rfl (qt_field (z := 11) (off := 0) rfl rfl Tryd.underlying106 rfl (by kernel_rfl) rfl) (fun _ _ _ h => h) ?_
  refine ga_v 8 rfl (by kernel_rfl) (by kernel_rfl) (by kernel_rfl) (.free rfl) rfl rfl (qt_field (z := 4) (off := 5) rfl rfl Tryd.underlying45 rfl (by kernel_rfl) rfl) (fun _ _ _ h => h) ?_
  refine ga_v 9 rfl (by kernel_rfl) (by kernel_rfl) (by kernel_rfl) (.free rfl) rfl rfl (qt_loadRQ hbB (z := 5) rfl rfl Tryd.underlying30 rfl (by kernel_rfl) (by simp)) (fun _ _ _ h => h) ?_
  refine ga_two 10 11 (by kernel_rfl) rfl rfl (.free rfl) (.free rfl) (fun K78 hK78 => ?_) (fun K78 hK78 => ?_)
  · refine go_alloc (z := (.agg #[.int .i64 0, .slice none 0 0, .slice none 0 0, .slice none 0 0, .slice none 0 0])) (cs := [.int .i64 0, .slice none 0 0, .slice none 0 0, .slice none 0 0, .slice none 0 0]) rfl rfl rfl (fun w => by kernel_rfl) rfl ?_
    intro B79
    refine hK78 _ _ (fun w M => (mem_take 0 M :)) ?_
    refine ga_op 11 (by kernel_rfl) rfl (.free rfl) fun K82 hK82 => ?_
    refine go_alloc (z := (.agg #[.int .i64 0, .slice none 0 0, .slice none 0 0, .slice none 0 0, .slice none 0 0])) (cs := [.int .i64 0, .slice none 0 0, .slice none 0 0, .slice none 0 0, .slice none 0 0]) rfl rfl rfl (fun w => by kernel_rfl) rfl ?_
    intro B81
    refine hK82 _ _ (fun w M => (mem_take 0 M :)) ?_
    refine ga_op 12 (by kernel_rfl) rfl (.free rfl) fun K83 hK83 => ?_
    refine go_storeS (n := 0) rfl rfl rfl rfl (by kernel_rfl) rfl rfl rfl ?_
    refine hK83 _ _ (fun w M => (mem_take 0 M :)) ?_
    refine ga_op 13 (by kernel_rfl) rfl (.free rfl) fun K84 hK84 => ?_
    refine go_storeS (n := 1) rfl rfl rfl rfl (by kernel_rfl) rfl rfl rfl ?_
    refine hK84 _ _ (fun w M => (mem_take 0 M :)) ?_
    refine ga_done (by kernel_rfl) ?_
    try simp only [List.nil_append, List.cons_append, List.append_assoc, List.set_cons_succ, List.set_cons_zero]
    refine gk_pickL [0, 0] ?_
    refine gk_sub ?hs_85 (HJ3 (_, _))
    case hs_85 => exact (sub_cons rfl (sub_cons rfl (sub_cons rfl (sub_cons rfl (sub_cons rfl (sub_cons rfl sub_nil))))))
  · refine go_alloc (z := (.agg #[.int .i64 0, .slice none 0 0, .slice none 0 0, .slice none 0 0, .slice none 0 0])) (cs := [.int .i64 0, .slice none 0 0, .slice none 0 0, .slice none 0 0, .slice none 0 0]) rfl rfl rfl (fun w => by kernel_rfl) rfl ?_
    intro B86
    refine hK78 _ _ (fun w M => (mem_take 0 M :)) ?_
    refine ga_op 10 (by kernel_rfl) rfl (.free rfl) fun K89 hK89 => ?_
    refine go_alloc (z := (.agg #[.int .i64 0, .slice none 0 0, .slice none 0 0, .slice none 0 0, .slice none 0 0])) (cs := [.int .i64 0, .slice none 0 0, .slice none 0 0, .slice none 0 0, .slice none 0 0]) rfl rfl rfl (fun w => by kernel_rfl) rfl ?_
    intro B88
    refine hK89 _ _ (fun w M => (mem_take 0 M :)) ?_
    refine ga_op 12 (by kernel_rfl) rfl (.free rfl) fun K90 hK90 => ?_
    refine go_storeS (n := 1) rfl rfl rfl rfl (by kernel_rfl) rfl rfl rfl ?_
    refine hK90 _ _ (fun w M => (mem_take 0 M :)) ?_
    refine ga_op 13 (by kernel_rfl) rfl (.free rfl) fun K91 hK91 => ?_
    refine go_storeS (n := 0) rfl rfl rfl rfl (by kernel_rfl) rfl rfl rfl ?_
    refine hK91 _ _ (fun w M => (mem_take 0 M :)) ?_
    refine ga_done (by kernel_rfl) ?_
    try simp only [List.nil_append, List.cons_append, List.append_assoc, List.set_cons_succ, List.set_cons_zero]
    refine gk_pickL [1, 0] ?_
    refine gk_sub ?hs_92 (HJ3 (_, _))
    case hs_92 => exact (sub_cons rfl (sub_cons rfl (sub_cons rfl (sub_cons rfl (sub_cons rfl (sub_cons rfl sub_nil))))))
end Go.Proofs.YtfnneogadciimaaDoor
