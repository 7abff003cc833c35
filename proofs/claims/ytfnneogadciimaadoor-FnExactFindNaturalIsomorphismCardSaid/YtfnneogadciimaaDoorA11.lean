import Derived.Test.YtfnneogadciimaaDoorA10
import Derived.Test.YtfnneogadciimaaDoorA9
import Derived.RangeFuncNested
import Derived.Lib.TrailingZeros
import Derived.Laws.Bits64b
set_option linter.unusedSimpArgs false
set_option linter.unusedVariables false
set_option linter.unusedSectionVars false
namespace Go.Proofs.YtfnneogadciimaaDoor
open Go.RowKit
section
variable {α : Type} [Inhabited α]
variable [DecidableEq α]
end
theorem offR_le {rows : List (List Int)} {b : Nat} : ∀ k, k ≤ rows.length → (∀ i, i < rows.length → (row2 rows (i : Int)).length ≤ b) → offR rows k ≤ k * b := by
  intro k
  induction k with
  | zero => intro _ _; simp [offR]
  | succ k ih =>
    intro hk h
    have h1 := ih (by omega) h
    have h2 := h k (by omega)
    simp only [row2, Int.toNat_natCast] at h2
    rw [Nat.succ_mul]
    show offR rows k + (rows.getD k []).length ≤ _
    omega
end Go.Proofs.YtfnneogadciimaaDoor
set_option linter.unusedSimpArgs false
set_option linter.unusedVariables false
set_option linter.unusedSectionVars false
namespace Go.Proofs.YtfnneogadciimaaDoor
open Go.RowKit
section
variable {w0 : World} {is : List Itm} {o : Oper} {e : Env}
end
theorem star_unapp : ∀ (is js : List Itm) {w : World} {S : Nat → Prop}, Star (is ++ js) w S → ∃ S1 S2 : Nat → Prop, (∀ k, S1 k → S k) ∧ (∀ k, S2 k → S k) ∧ (∀ k, S1 k → ¬ S2 k) ∧ Star is w S1 ∧ Star js w S2
  | [], js, w, S, h => ⟨fun _ => False, S, fun k h => h.elim, fun k h => h, fun k h => h.elim, trivial, h⟩
  | i :: is, js, w, S, h => by
    obtain ⟨S1, S2, k1, k2, kd, h1, h2⟩ := h
    obtain ⟨T1, T2, t1, t2, td, a1, a2⟩ := star_unapp is js h2
    refine ⟨fun k => S1 k ∨ T1 k, T2, fun k h => h.elim (k1 k) fun h => k2 k (t1 k h), fun k h => k2 k (t2 k h), fun k h h' => h.elim (fun h => kd k h (t2 k h')) fun h => td k h h', ?_, a2⟩
    exact ⟨S1, T1, fun k h => .inl h, fun k h => .inr h, fun k h h' => kd k h (t1 k h'), h1, a1⟩
theorem starS_ownC {w : World} {S : Nat → Prop} {v : Value} {c : Cat} (h : OwnC v c w S) : ∃ (a1 a2 a3 a4 : Option Addr) (k1 k2 k3 k4 : Nat) (uu : List Value), v = .agg #[.int .i64 c.ob, .slice a1 c.s.length k1, .slice a2 c.t.length k2, .slice a3 c.e.length k3, .slice a4 c.m.length k4] ∧ Star [own1I (.slice a1 c.s.length k1) c.s, own1I (.slice a2 c.t.length k2) c.t, own1I (.slice a3 c.e.length k3) c.e, own2U (.slice a4 c.m.length k4) uu c.m] w S := by
  obtain ⟨vs, vt, ve, vm, P1, P2, P3, P4, hv, h1, h2, h3, ⟨us, h4⟩, hs, d12, d13, d14, d23, d24, d34⟩ := ownC_open h
  obtain ⟨a1, k1, rfl⟩ := rd_form (Own1.rd h1)
  obtain ⟨a2, k2, rfl⟩ := rd_form (Own1.rd h2)
  obtain ⟨a3, k3, rfl⟩ := rd_form (Own1.rd h3)
  obtain ⟨a4, k4, rfl⟩ := rd2_form (Own2.rd (S := P4) ⟨us, h4⟩)
  refine ⟨a1, a2, a3, a4, k1, k2, k3, k4, us, hv, P1, fun k => P2 k ∨ P3 k ∨ P4 k, fun k h => (hs k (.inl h)).1, fun k h => (hs k (.inr h)).1, ?_, h1, P2, fun k => P3 k ∨ P4 k, fun k h => .inl h, fun k h => .inr h, ?_, h2, P3, P4, fun k h => .inl h, fun k h => .inr h, d34, h3, P4, fun _ => False, fun k h => h, fun k h => h.elim, fun k _ h => h, h4, trivial⟩
  · rintro k hk (h | h | h)
    · exact d12 k hk h
    · exact d13 k hk h
    · exact d14 k hk h
  · rintro k hk (h | h)
    · exact d23 k hk h
    · exact d24 k hk h
theorem ownC_starS {w : World} {S : Nat → Prop} {c : Cat} {vs vt ve vm : Value} {us : List Value} {is : List Itm} (h : Star (own1I vs c.s :: own1I vt c.t :: own1I ve c.e :: own2U vm us c.m :: is) w S) : OwnC (.agg #[.int .i64 c.ob, vs, vt, ve, vm]) c w S := by
  obtain ⟨P1, R1, a1, b1, d1, h1, P2, R2, a2, b2, d2, h2, P3, R3, a3, b3, d3, h3, P4, R4, a4, b4, d4, h4, _⟩ := h
  refine ownC_shut h1 h2 h3 ⟨us, h4⟩ (fun k h => ?_) (fun k h h' => d1 k h (a2 k h')) (fun k h h' => d1 k h (b2 k (a3 k h'))) (fun k h h' => d1 k h (b2 k (b3 k (a4 k h')))) (fun k h h' => d2 k h (a3 k h')) (fun k h h' => d2 k h (b3 k (a4 k h'))) (fun k h h' => d3 k h (a4 k h'))
  rcases h with h | h | h | h
  · exact a1 k h
  · exact b1 k (a2 k h)
  · exact b1 k (b2 k (a3 k h))
  · exact b1 k (b2 k (b3 k (a4 k h)))
section
variable {w0 : World} {is : List Itm} {Q : Exit → Act → World → Prop} {o : Oper} {N : Frm} {e : Env} {v : Value} {d : Nat} {K : Act → World → Prop} {f : FuncId} {fn : Func} {ags : Array Operand} {ts : Array TypeId} {vs : List Value}
end
end Go.Proofs.YtfnneogadciimaaDoor
set_option linter.unusedSimpArgs false
set_option linter.unusedVariables false
set_option linter.unusedSectionVars false
namespace Go.Proofs.YtfnneogadciimaaDoor
open Go.RowKit
section
variable {w0 : World} {is : List Itm} {ops : Array Oper} {Q : Exit → Act → World → Prop} {o : Oper} {rest : List Oper} {N : Frm} {n m : Nat} {e : Env} {v u : Value} {d : Nat} {K : Act → World → Prop} {f : FuncId} {fn : Func} {ags : Array Operand} {ts : Array TypeId} {vs : List Value}
end
end Go.Proofs.YtfnneogadciimaaDoor
set_option linter.unusedSimpArgs false
set_option linter.unusedVariables false
set_option linter.unusedSectionVars false
namespace Go.Proofs.YtfnneogadciimaaDoor
open Go.RowKit
theorem tail_loc (js : List Itm) : Loc (fun w S => Star js w S) where
  keep hs ha h := star_keep js hs ha h
def tailI (js : List Itm) : Itm := ⟨_, tail_loc js⟩
theorem star_tail_in : ∀ (L : List Itm) {F : List Itm} {w : World} {S : Nat → Prop}, Star (L ++ F) w S → Star (L ++ [tailI F]) w S
  | [], F, w, S, h => ⟨S, fun _ => False, fun _ h => h, fun _ h => h.elim, fun _ _ h => h, h, trivial⟩
  | _ :: L, F, w, S, ⟨S1, S2, k1, k2, kd, h1, h2⟩ => ⟨S1, S2, k1, k2, kd, h1, star_tail_in L h2⟩
theorem star_tail_out : ∀ (L : List Itm) {F : List Itm} {w : World} {S : Nat → Prop}, Star (L ++ [tailI F]) w S → Star (L ++ F) w S
  | [], F, w, S, ⟨S1, _, k1, _, _, h1, _⟩ => star_keep F (fun k _ h => k1 k h) agree_refl h1
  | _ :: L, F, w, S, ⟨S1, S2, k1, k2, kd, h1, h2⟩ => ⟨S1, S2, k1, k2, kd, h1, star_tail_out L h2⟩
theorem star_perm {is js : List Itm} (h : is.Perm js) : ∀ {w : World} {S : Nat → Prop}, Star is w S → Star js w S := by
  induction h with
  | nil => exact fun h => h
  | cons x _ ih => rintro w S ⟨S1, S2, k1, k2, hd, h1, h2⟩; exact ⟨S1, S2, k1, k2, hd, h1, ih h2⟩
  | swap x y l =>
    rintro w S ⟨S1, S2, k1, k2, hd, h1, T1, T2, t1, t2, td, h2, h3⟩
    exact ⟨T1, fun k => S1 k ∨ T2 k, fun k h => k2 k (t1 k h), fun k h => h.elim (k1 k) (fun h => k2 k (t2 k h)), fun k a b => b.elim (fun b => hd k b (t1 k a)) (td k a), h2, S1, T2, fun k h => .inl h, fun k h => .inr h, fun k a b => hd k a (t2 k b), h1, h3⟩
  | trans _ _ ih1 ih2 => exact fun h => ih2 (ih1 h)
theorem mem_perm {w0 w : World} {is js : List Itm} (h : is.Perm js) (M : Mem w0 w is) : Mem w0 w js := ⟨M.1, star_perm h M.2⟩
theorem mem_tail_in {w0 w : World} {L F : List Itm} (M : Mem w0 w (L ++ F)) : Mem w0 w (L ++ [tailI F]) := ⟨M.1, star_tail_in L M.2⟩
theorem mem_tail_out {w0 w : World} {L F : List Itm} (M : Mem w0 w (L ++ [tailI F])) : Mem w0 w (L ++ F) := ⟨M.1, star_tail_out L M.2⟩
section
variable {w0 : World} {is : List Itm} {ops : Array Oper} {Q : Exit → Act → World → Prop} {o : Oper} {N : Frm} {e : Env} {v : Value} {d : Nat} {K : Act → World → Prop} {f : FuncId} {fn : Func} {ags : Array Operand} {ts : Array TypeId} {vs : List Value}
end
end Go.Proofs.YtfnneogadciimaaDoor
set_option linter.unusedSimpArgs false
set_option linter.unusedVariables false
set_option linter.unusedSectionVars false
namespace Go.Proofs.YtfnneogadciimaaDoor
open Go.RowKit
section
variable {w0 : World} {is : List Itm} {ops : Array Oper} {Q : Exit → Act → World → Prop} {o : Oper} {rest : List Oper} {N : Frm} {n m : Nat} {e : Env} {v u : Value} {d : Nat} {K : Act → World → Prop} {f : FuncId} {fn : Func} {ags : Array Operand} {ts : Array TypeId} {vs0 : List Value}
end
end Go.Proofs.YtfnneogadciimaaDoor
set_option linter.unusedSimpArgs false
set_option linter.unusedVariables false
set_option linter.unusedSectionVars false
namespace Go.Proofs.YtfnneogadciimaaDoor
open Go.RowKit
def mzF (F : Fct) : Nat := mzC F.S + mzC F.T + F.o.length + F.a.length
theorem mzF_le (F : Fct) : mzF F ≤ szFn F := by have h1 := mz_le F.S; have h2 := mz_le F.T; unfold mzF szFn; omega
def mkF (k0 : Int) (F : Fct) : Fct := ⟨mkC k0 F.S, mkC (k0 + (mzC F.S : Int)) F.T, upTo (k0 + (mzC F.S : Int) + (mzC F.T : Int)) F.o.length, upTo (k0 + (mzC F.S : Int) + (mzC F.T : Int) + (F.o.length : Int)) F.a.length⟩
theorem agg12 {a b c d e f g h i j k l a' b' c' d' e' f' g' h' i' j' k' l' : Value} (q : (Value.agg #[a, b, c, d, e, f, g, h, i, j, k, l]) = .agg #[a', b', c', d', e', f', g', h', i', j', k', l']) : b = b' ∧ c = c' ∧ d = d' ∧ e = e' ∧ g = g' ∧ h = h' ∧ i = i' ∧ j = j' ∧ k = k' ∧ l = l' := by
  simp only [Value.agg.injEq] at q
  have hl := congrArg Array.toList q
  simp only [List.cons.injEq, and_true] at hl
  exact ⟨hl.2.1, hl.2.2.1, hl.2.2.2.1, hl.2.2.2.2.1, hl.2.2.2.2.2.2.1, hl.2.2.2.2.2.2.2.1, hl.2.2.2.2.2.2.2.2.1, hl.2.2.2.2.2.2.2.2.2.1, hl.2.2.2.2.2.2.2.2.2.2.1, hl.2.2.2.2.2.2.2.2.2.2.2⟩
theorem star_groupC {w : World} {S : Nat → Prop} {c : Cat} {vs vt ve vm : Value} {us : List Value} {is : List Itm} (h : Star (own1I vs c.s :: own1I vt c.t :: own1I ve c.e :: own2U vm us c.m :: is) w S) : Star (ownCI (.agg #[.int .i64 c.ob, vs, vt, ve, vm]) c :: is) w S := by
  obtain ⟨S1, S2, k1, k2, kd, h1, h2⟩ := star_unapp [own1I vs c.s, own1I vt c.t, own1I ve c.e, own2U vm us c.m] is h
  exact ⟨S1, S2, k1, k2, kd, ownC_starS h1, h2⟩
theorem star_ungroupC {w : World} {S : Nat → Prop} {c : Cat} {vs vt ve vm : Value} {is : List Itm} (h : Star (ownCI (.agg #[.int .i64 c.ob, vs, vt, ve, vm]) c :: is) w S) : ∃ us, Star (own1I vs c.s :: own1I vt c.t :: own1I ve c.e :: own2U vm us c.m :: is) w S := by
  obtain ⟨S1, S2, k1, k2, kd, h1, h2⟩ := h
  obtain ⟨a1, a2, a3, a4, q1, q2, q3, q4, uu, hv, hst⟩ := starS_ownC h1
  obtain ⟨_, rfl, rfl, rfl, rfl⟩ := agg5 hv
  exact ⟨uu, star_app _ _ k1 k2 kd hst h2⟩
theorem star_tl {w : World} {i : Itm} {is js : List Itm} (hh : ∀ S, Star is w S → Star js w S) {S : Nat → Prop} (h : Star (i :: is) w S) : Star (i :: js) w S := by
  obtain ⟨S1, S2, k1, k2, kd, h1, h2⟩ := h
  exact ⟨S1, S2, k1, k2, kd, h1, hh _ h2⟩
theorem mem_openF {w0 w : World} {F : Fct} {s1 s2 s3 s4 t1 t2 t3 t4 vo va : Value} {is : List Itm} (M : Mem w0 w (ownFI (.agg #[.int .i64 F.S.ob, s1, s2, s3, s4, .int .i64 F.T.ob, t1, t2, t3, t4, vo, va]) F :: is)) : Mem w0 w (ownCI (.agg #[.int .i64 F.S.ob, s1, s2, s3, s4]) F.S :: ownCI (.agg #[.int .i64 F.T.ob, t1, t2, t3, t4]) F.T :: own1I vo F.o :: own1I va F.a :: is) := by
  obtain ⟨S1, S2, k1, k2, kd, ⟨x1, x2, x3, x4, x5, x6, x7, x8, x9, x10, us, ut, hv, h⟩, hr⟩ := M.2
  obtain ⟨rfl, rfl, rfl, rfl, rfl, rfl, rfl, rfl, rfl, rfl⟩ := agg12 hv
  refine ⟨M.1, ?_⟩
  have h2 := star_app _ _ k1 k2 kd h hr
  simp only [List.cons_append, List.nil_append] at h2
  exact star_tl (fun S h => star_groupC h) (star_groupC h2)
theorem mem_closeF {w0 w : World} {c c' : Cat} {xs ys : List Int} {s1 s2 s3 s4 t1 t2 t3 t4 vo va : Value} {is : List Itm} (M : Mem w0 w (ownCI (.agg #[.int .i64 c.ob, s1, s2, s3, s4]) c :: ownCI (.agg #[.int .i64 c'.ob, t1, t2, t3, t4]) c' :: own1I vo xs :: own1I va ys :: is)) :
    Mem w0 w (ownFI (.agg #[.int .i64 c.ob, s1, s2, s3, s4, .int .i64 c'.ob, t1, t2, t3, t4, vo, va]) ⟨c, c', xs, ys⟩ :: is) := by
  refine ⟨M.1, ?_⟩
  obtain ⟨us, h1⟩ := star_ungroupC M.2
  obtain ⟨S1, S2, k1, k2, kd, h2, h3⟩ := star_unapp [own1I s1 c.s, own1I s2 c.t, own1I s3 c.e, own2U s4 us c.m] _ h1
  obtain ⟨ut, h4⟩ := star_ungroupC h3
  have h5 := star_app _ _ k1 k2 kd h2 h4
  simp only [List.cons_append, List.nil_append] at h5
  obtain ⟨S1, S2, k1, k2, kd, h2, h3⟩ := star_unapp [own1I s1 c.s, own1I s2 c.t, own1I s3 c.e, own2U s4 us c.m, own1I t1 c'.s, own1I t2 c'.t, own1I t3 c'.e, own2U t4 ut c'.m, own1I vo xs, own1I va ys] is h5
  exact ⟨S1, S2, k1, k2, kd, ⟨_, _, _, _, _, _, _, _, _, _, us, ut, rfl, h2⟩, h3⟩
section
variable {w0 : World} {is : List Itm} {ops : Array Oper} {Q : Exit → Act → World → Prop} {o : Oper} {rest : List Oper} {N : Frm} {n m : Nat} {e : Env} {v : Value} {d : Nat} {K : Act → World → Prop} {f : FuncId} {fn : Func} {ags : Array Operand} {ts : Array TypeId} {vs : List Value}
theorem go_one {i j : Itm} {r : Value} (hd : o.dst = some d) (hN : Nat.blt d N = true) (hop : o.op = .call { callee := .value (.func f), args := ags, argTypes := ts }) (hfn : Tryd.prog.funcs[f]? = some fn) (hb : fn.body.isNone = false) (hnm : (fn.name == "runtime.NumGoroutine") = false)
    (hargs : evoL e ags.toList = some vs) (hi : is[n]? = some i) (hc : ∀ (R : Itm) w, Mem w0 w [i, R] → Calls Tryd.prog f vs.toArray w (fun e w' => e = .returned r ∧ Mem w0 w' [j, R]))
    (hk : GK w0 (is.set n j) N K ((d, r) :: e)) : GO w0 is N o e Q K := by
  intro w a M F
  have hn : n < is.length := (List.getElem?_eq_some_iff.1 hi).1
  refine go_call hd hN F hop hfn hb hnm hargs (hc (tailI (is.eraseIdx n)) w (mem_tail_in (L := [i]) (mem_pick M hi))) fun e' w' hR => ?_
  obtain ⟨rfl, M'⟩ := hR
  have M2 := mem_tail_out (L := [j]) M'
  exact ⟨r, rfl, fun a F => hk w' a ⟨M2.1, star_unpick _ hn M2.2⟩ F⟩
end
set_option maxHeartbeats 1000000 in
set_option maxRecDepth 100000 in
theorem markFM_any (w0 w : World) (R : Itm) (F : Fct) (k0 : Int) (s1 s2 s3 s4 t1 t2 t3 t4 vo va : Value) (hk0 : 0 ≤ k0) (hk1 : k0 + (mzC F.S : Int) + (mzC F.T : Int) + (F.o.length : Int) + (F.a.length : Int) ≤ 1152921504606846976) (M : Mem w0 w [ownCI (.agg #[.int .i64 F.S.ob, s1, s2, s3, s4]) F.S, ownCI (.agg #[.int .i64 F.T.ob, t1, t2, t3, t4]) F.T, own1I vo F.o, own1I va F.a, R]) :
    Calls Tryd.prog 24 #[.agg #[.int .i64 F.S.ob, s1, s2, s3, s4, .int .i64 F.T.ob, t1, t2, t3, t4, vo, va], .int .i64 k0] w (fun e w' => e = .returned (.int .i64 (k0 + (mzC F.S : Int) + (mzC F.T : Int) + (F.o.length : Int) + (F.a.length : Int))) ∧ Mem w0 w' [ownCI (.agg #[.int .i64 F.S.ob, s1, s2, s3, s4]) (mkC k0 F.S), ownCI (.agg #[.int .i64 F.T.ob, t1, t2, t3, t4]) (mkC (k0 + (mzC F.S : Int)) F.T), own1I vo (upTo (k0 + (mzC F.S : Int) + (mzC F.T : Int)) F.o.length), own1I va (upTo (k0 + (mzC F.S : Int) + (mzC F.T : Int) + (F.o.length : Int)) F.a.length), R]) := by
  go_enter Tryd.func24, Tryd.ntmps24
  refine gc_enterM M (N := 22) rfl (look_cons (k := 0) rfl (look_cons (k := 1) rfl (look_nil _))) ?_
  clear M
  refine gc_seq fun K1 hK1 => ?_
  refine gc_region ?_
  refine g_op (.free rfl) fun K3 hK3 => ?_
  refine go_box rfl rfl rfl rfl rfl ?_
  intro B2
  refine hK3 _ _ ?_
  refine g_v (.free rfl) rfl rfl (qt_assign rfl rfl) ?_
  refine g_nil ?_
  refine gk_then (hK1 _ _ ?_)
  refine gc_seq fun K4 hK4 => ?_
  refine gc_region ?_
  refine g_v (.free rfl) rfl rfl (qt_field (z := 4) (off := 0) rfl rfl Tryd.underlying45 rfl (by kernel_rfl) rfl) ?_
  refine g_v (.free rfl) rfl rfl (qt_loadP (n := 5) (z := 5) rfl rfl Tryd.underlying30 rfl (by kernel_rfl) rfl (by first | decide | exact Nat.le_refl _ | simp)) ?_
  refine g_v (.free rfl) rfl rfl (qt_move rfl rfl) ?_
  refine g_op (.free rfl) fun K5 hK5 => ?_
  refine go_mark (ownCI _ (mkC _ _)) (n := 0) rfl rfl rfl Tryd.func13 rfl (by decide) rfl rfl (fun w S hS => markC_any w S _ _ _ hS (by omega) (by omega)) ?_
  refine hK5 _ _ ?_
  refine g_v (.free rfl) rfl rfl (qt_assign rfl rfl) ?_
  refine g_nil ?_
  refine gk_then (hK4 _ _ ?_)
  refine gc_seq fun K6 hK6 => ?_
  refine gc_region ?_
  refine g_v (.free rfl) rfl rfl (qt_field (z := 4) (off := 5) rfl rfl Tryd.underlying45 rfl (by kernel_rfl) rfl) ?_
  refine g_v (.free rfl) rfl rfl (qt_loadP (n := 5) (z := 5) rfl rfl Tryd.underlying30 rfl (by kernel_rfl) rfl (by first | decide | exact Nat.le_refl _ | simp)) ?_
  refine g_v (.free rfl) rfl rfl (qt_move rfl rfl) ?_
  refine g_op (.free rfl) fun K7 hK7 => ?_
  refine go_mark (ownCI _ (mkC _ _)) (n := 1) rfl rfl rfl Tryd.func13 rfl (by decide) rfl rfl (fun w S hS => markC_any w S _ _ _ hS (by omega) (by omega)) ?_
  refine hK7 _ _ ?_
  refine g_v (.free rfl) rfl rfl (qt_assign rfl rfl) ?_
  refine g_nil ?_
  refine gk_then (hK6 _ _ ?_)
  refine gc_seq fun K8 hK8 => ?_
  refine gc_region ?_
  refine g_v (.free rfl) rfl rfl (qt_field (z := 0) (off := 10) rfl rfl Tryd.underlying45 rfl (by kernel_rfl) rfl) ?_
  refine g_v (.free rfl) rfl rfl (qt_loadB (n := 5) rfl rfl Tryd.underlying22 rfl rfl rfl) ?_
  refine g_v (.free rfl) rfl rfl (qt_move rfl rfl) ?_
  refine g_op (.free rfl) fun K9 hK9 => ?_
  refine go_mark (own1I _ (upTo _ _)) (n := 2) rfl rfl rfl Tryd.func30 rfl (by decide) rfl rfl (fun w S hS => markS_any w S _ _ _ hS (by omega) (by omega)) ?_
  refine hK9 _ _ ?_
  refine g_v (.free rfl) rfl rfl (qt_assign rfl rfl) ?_
  refine g_nil ?_
  refine gk_then (hK8 _ _ ?_)
  refine gc_seq fun K10 hK10 => ?_
  refine gc_region ?_
  refine g_v (.free rfl) rfl rfl (qt_field (z := 0) (off := 11) rfl rfl Tryd.underlying45 rfl (by kernel_rfl) rfl) ?_
  refine g_v (.free rfl) rfl rfl (qt_loadB (n := 5) rfl rfl Tryd.underlying22 rfl rfl rfl) ?_
  refine g_v (.free rfl) rfl rfl (qt_move rfl rfl) ?_
  refine g_op (.free rfl) fun K11 hK11 => ?_
  refine go_mark (own1I _ (upTo _ _)) (n := 3) rfl rfl rfl Tryd.func30 rfl (by decide) rfl rfl (fun w S hS => markS_any w S _ _ _ hS (by omega) (by omega)) ?_
  refine hK11 _ _ ?_
  refine g_v (.free rfl) rfl rfl (qt_assign rfl rfl) ?_
  refine g_nil ?_
  refine gk_then (hK10 _ _ ?_)
  refine gc_seq fun K12 hK12 => ?_
  refine gc_region ?_
  refine g_v (.free rfl) rfl rfl (qt_move rfl rfl) ?_
  refine g_v (.free rfl) rfl rfl (qt_assign rfl rfl) ?_
  refine g_nil ?_
  refine gk_then (hK12 _ _ ?_)
  refine gc_ret ?_
  refine ret_1 rfl rfl  (fun w M => ?_)
  exact ⟨rfl, mem_take 5 M⟩
theorem markF1_any (w0 w : World) (R : Itm) (F : Fct) (k0 : Int) (s1 s2 s3 s4 t1 t2 t3 t4 vo va : Value) (hk0 : 0 ≤ k0) (hk1 : k0 + (mzF F : Int) ≤ 1152921504606846976) (M : Mem w0 w [ownFI (.agg #[.int .i64 F.S.ob, s1, s2, s3, s4, .int .i64 F.T.ob, t1, t2, t3, t4, vo, va]) F, R]) :
    Calls Tryd.prog 24 #[.agg #[.int .i64 F.S.ob, s1, s2, s3, s4, .int .i64 F.T.ob, t1, t2, t3, t4, vo, va], .int .i64 k0] w (fun e w' => e = .returned (.int .i64 (k0 + (mzF F : Int))) ∧ Mem w0 w' [ownFI (.agg #[.int .i64 F.S.ob, s1, s2, s3, s4, .int .i64 F.T.ob, t1, t2, t3, t4, vo, va]) (mkF k0 F), R]) := by
  have hz : (mzF F : Int) = (mzC F.S : Int) + (mzC F.T : Int) + (F.o.length : Int) + (F.a.length : Int) := by unfold mzF; omega
  refine (markFM_any w0 w R F k0 s1 s2 s3 s4 t1 t2 t3 t4 vo va hk0 (by omega) (mem_openF M)).mono fun e w' h => ?_
  obtain ⟨rfl, M'⟩ := h
  exact ⟨by rw [show k0 + (mzF F : Int) = k0 + (mzC F.S : Int) + (mzC F.T : Int) + (F.o.length : Int) + (F.a.length : Int) from by omega], mem_closeF (c := mkC k0 F.S) (c' := mkC (k0 + (mzC F.S : Int)) F.T) M'⟩
end Go.Proofs.YtfnneogadciimaaDoor
set_option linter.unusedSimpArgs false
set_option linter.unusedVariables false
set_option linter.unusedSectionVars false
namespace Go.Proofs.YtfnneogadciimaaDoor
open Go.RowKit
theorem dfs_loc (Ds : List Nat) : Loc (fun w S => (∀ D ∈ Ds, w.heap[D]? = some (.deferred (some [])) ∧ S D) ∧ Ds.Nodup) where
  keep hs ha h := ⟨fun D hD => by
    obtain ⟨h1, h2⟩ := h.1 D hD
    have hl := (Array.getElem?_eq_some_iff.1 h1).1
    exact ⟨(ha D hl h2).trans h1, hs D hl h2⟩, h.2⟩
def dfsI (Ds : List Nat) : Itm := ⟨_, dfs_loc Ds⟩
theorem rec_loc (l : Nat) (r : Loop) : Loc (fun w S => w.heap[l]? = some (.loop r) ∧ S l) where
  keep hs ha h := by
    have hl := (Array.getElem?_eq_some_iff.1 h.1).1
    exact ⟨(ha l hl h.2).trans h.1, hs l hl h.2⟩
def recI (l : Nat) (r : Loop) : Itm := ⟨_, rec_loc l r⟩
theorem cons_loc {σ : Type} (L : σ → List Itm) (inv : σ → Prop) : Loc (fun w S => ∃ s, inv s ∧ Star (L s) w S) where
  keep hs ha h := by obtain ⟨s, hi, h⟩ := h; exact ⟨s, hi, star_keep _ hs ha h⟩
def consI {σ : Type} (L : σ → List Itm) (inv : σ → Prop) : Itm := ⟨_, cons_loc L inv⟩
def nilI : Itm := ⟨fun _ _ => True, ⟨fun _ _ _ => trivial⟩⟩
section
variable {w0 : World} {is : List Itm} {Q : Exit → Act → World → Prop} {N : Frm} {e : Env}
theorem frS_putObj {S : Nat → Prop} {w : World} {l : Nat} {o : Obj} (h : S l) : FrS S w (w.putObj l o) := ⟨rfl, rfl, rfl, by simp, fun k _ hr => World.putObj_heap_other (fun e => hr (e ▸ h))⟩
theorem mem_rec {w : World} {n l : Nat} {r : Loop} (r' : Loop) (M : Mem w0 w is) (h : is[n]? = some (recI l r)) : w.heap[l]? = some (.loop r) ∧ Mem w0 (w.putObj l (.loop r')) (is.set n (recI l r')) := by
  obtain ⟨S, hS, hp, hset⟩ := mem_set M h
  have hl := (Array.getElem?_eq_some_iff.1 hp.1).1
  exact ⟨hp.1, hset _ _ (frS_putObj hp.2) ⟨World.putObj_heap_same hl, .inl hp.2⟩⟩
theorem below_allocO (w : World) (o : Obj) : Below w.heap.size w (w.alloc o) := (Below.refl _ w).alloc (Nat.le_refl _) _
theorem mem_rec_new {w : World} (r : Loop) (M : Mem w0 w is) : Mem w0 (w.alloc (.loop r)) (is ++ [recI w.heap.size r]) :=
  mem_new M (below_allocO w _) ⟨World.alloc_heap_new w _, Nat.le_refl _⟩
theorem mem_dfs_new {w : World} {n : Nat} {Ds : List Nat} (M : Mem w0 w is) (h : is[n]? = some (dfsI Ds)) : Mem w0 (w.alloc (.deferred (some []))) (is.set n (dfsI (w.heap.size :: Ds))) := by
  obtain ⟨S, hS, hp, hset⟩ := mem_set M h
  refine hset _ _ ⟨rfl, rfl, rfl, by simp, fun k hk _ => Below.heap_alloc w _ k hk⟩ ⟨fun D hD => ?_, ?_⟩
  · rcases List.mem_cons.1 hD with rfl | hD
    · exact ⟨World.alloc_heap_new w _, .inr (Nat.le_refl _)⟩
    · obtain ⟨h1, h2⟩ := hp.1 D hD
      exact ⟨(Below.heap_alloc w _ D (Array.getElem?_eq_some_iff.1 h1).1).trans h1, .inl h2⟩
  · refine List.nodup_cons.2 ⟨fun hD => ?_, hp.2⟩
    have := (Array.getElem?_eq_some_iff.1 (hp.1 _ hD).1).1
    omega
theorem star_split : ∀ (is js : List Itm) {w : World} {S : Nat → Prop}, Star (is ++ js) w S → ∃ S1 S2 : Nat → Prop, (∀ k, S1 k → S k) ∧ (∀ k, S2 k → S k) ∧ (∀ k, S1 k → ¬ S2 k) ∧ Star is w S1 ∧ Star js w S2
  | [], js, w, S, h => ⟨fun _ => False, S, fun _ h => h.elim, fun _ h => h, fun _ h => h.elim, trivial, h⟩
  | i :: is, js, w, S, ⟨S1, S2, k1, k2, kd, h1, h2⟩ => by
    obtain ⟨T1, T2, t1, t2, td, h3, h4⟩ := star_split is js h2
    exact ⟨fun k => S1 k ∨ T1 k, T2, fun k h => h.elim (k1 k) (fun h => k2 k (t1 k h)), fun k h => k2 k (t2 k h), fun k a b => a.elim (fun a => kd k a (t2 k b)) (fun a => td k a b), ⟨S1, T1, fun k h => .inl h, fun k h => .inr h, fun k a b => kd k a (t1 k b), h1, h3⟩, h4⟩
theorem mem_cons_out {σ : Type} {L : σ → List Itm} {inv : σ → Prop} {js : List Itm} {w : World} (M : Mem w0 w (consI L inv :: js)) : ∃ s, inv s ∧ Mem w0 w (L s ++ js) := by
  obtain ⟨hb, S1, S2, k1, k2, kd, ⟨s, hi, h1⟩, h2⟩ := M
  exact ⟨s, hi, hb, star_app _ _ k1 k2 kd h1 h2⟩
theorem mem_cons_in {σ : Type} {L : σ → List Itm} {inv : σ → Prop} {js : List Itm} {w : World} (s : σ) (hi : inv s) (M : Mem w0 w (L s ++ js)) : Mem w0 w (consI L inv :: js) := by
  obtain ⟨S1, S2, k1, k2, kd, h1, h2⟩ := star_split _ _ M.2
  exact ⟨M.1, S1, S2, k1, k2, kd, ⟨s, hi, h1⟩, h2⟩
def YieldC {α β : Type} (w0 : World) (C Cx : List α → Itm) (l : Nat) (val : α → Value) (T : α → List Itm) (dec : α → β) (L : List β) : Prop :=
  ∀ (W : World) (js : List Itm) (pre : List α) (x : α), ((pre ++ [x]).map dec) <+: L → Mem w0 W (C pre :: (T x ++ js)) → YieldAt Fence.wide 0 Tryd.prog l #[val x] W fun e W' =>
    (e = .returned (.bool true) ∧ Mem w0 W' (C (pre ++ [x]) :: js)) ∨ (e = .returned (.bool false) ∧ Mem w0 W' (Cx (pre ++ [x]) :: js))
def SeqC {α β : Type} (w0 : World) (B : List Itm) (gf : Nat) (lb : List Value) (val : α → Value) (T : α → List Itm) (dec : α → β) (L : List β) : Prop :=
  ∀ (C Cx : List α → Itm) (l : Nat), YieldC w0 C Cx l val T dec L → ∀ W, Mem w0 W (C [] :: B) → Calls Tryd.prog gf (.func (.yield l) #[] #[] :: lb).toArray W fun e W' =>
    (∃ v, e = .returned v) ∧ ((∃ xs, xs.map dec = L ∧ Mem w0 W' (C xs :: B)) ∨ (∃ pre, (pre.map dec) <+: L ∧ Mem w0 W' (Cx pre :: B)))
def jumpC : Code → Prop
  | .ret => True
  | .exit _ => True
  | _ => False
theorem run_invokeF {gf : Nat} {fn : Func} (hfn : Tryd.prog.funcs[gf]? = some fn) (hb : fn.body.isNone = false) (hn : (fn.name == "runtime.NumGoroutine") = false) (args : Array Value) (w : World) : (callFunc gf args).run Tryd.prog w = .ok (.enter gf args) w := by
  have hb' : ¬ fn.body = none := fun h => by rw [h] at hb; simp at hb
  have hn' : ¬ fn.name = "runtime.NumGoroutine" := by simpa using hn
  simp [callFunc, hfn, hn', hb']
theorem fit_round {a : Act} {p l : Nat} {v : Value} (F : Fit N e a) (hp : Nat.blt p N = true) : Fit ⟨N.n, [], some l⟩ ((p, v) :: e) { tmps := a.tmps.setIfInBounds p v, defers := [] } := by
  have h0 : Fit ⟨N.n, [], some l⟩ e { tmps := a.tmps, defers := [] } := ⟨F.size, rfl, F.at_⟩
  have := fit_put (v := v) h0 hp
  exact ⟨this.size, rfl, this.at_⟩
section
variable {α β σ : Type} {g : Operand} {p gf : Nat} {assign body : Code} {fn : Func} {lb : List Value} {val : α → Value} {T : α → List Itm} {dec : α → β} {L : List β} {A B : List Itm}
  {ti : σ → List (Nat × Itm)} {inv : List α → σ → Prop} {invX : Code → List α → σ → Prop}
def RoundC (w0 : World) (n : Nat) (assign body : Code) (p : Nat) (e : Env) (val : α → Value) (T : α → List Itm) (dec : α → β) (L : List β) (A : List Itm) (ti : σ → List (Nat × Itm)) (inv : List α → σ → Prop) (invX : Code → List α → σ → Prop) : Prop :=
  ∀ (l : Nat) (r : Loop) (js : List Itm) (pre : List α) (x : α) (s : σ), inv pre s → ((pre ++ [x]).map dec) <+: L → ∀ (Ka : Act → World → Prop) (Qb : Exit → Act → World → Prop),
    (∀ ch a a' w, Qb (.panic ch) a w → Qb (.panic ch) a' w) →
    (∀ is' e', GC w0 (recI l { r with state := .busy } :: is') ⟨n, [], some l⟩ body Qb e' → GK w0 (recI l { r with state := .ready } :: is') ⟨n, [], some l⟩ Ka e') →
    (∀ s' e', inv (pre ++ [x]) s' → GK w0 (recI l { r with state := .busy } :: (updL A (ti s') ++ [tailI js])) ⟨n, [], some l⟩ (Qb .normal) e') →
    (∀ s' e', invX .ret (pre ++ [x]) s' → GK w0 (recI l { r with state := .busy } :: (updL A (ti s') ++ [tailI js])) ⟨n, [], some l⟩ (Qb .ret) e') →
    (∀ id s' e', invX (.exit id) (pre ++ [x]) s' → GK w0 (recI l { r with state := .busy } :: (updL A (ti s') ++ [tailI js])) ⟨n, [], some l⟩ (Qb (.exit id)) e') →
    GC w0 (recI l { r with state := .ready } :: (updL A (ti s) ++ tailI js :: T x)) ⟨n, [], some l⟩ assign (Exit.then Ka fun _ _ _ => False) ((p, val x) :: e)
theorem yieldC_of {a : Act} {fnr : Nat} {l : Nat} {r : Loop} {X : List Itm} (F : Fit N e a) (hN : Nat.blt p N = true) (hca : calmC assign = true) (hcb : calmC body = true)
    (hr : r = { state := .ready, pending := none, fn := fnr, tmps := a.tmps, params := #[p], assign, body, defers := r.defers })
    (round : RoundC w0 N.n assign body p e val T dec L A ti inv invX) :
    YieldC w0 (fun pre => consI (fun s => recI l { r with state := .ready } :: (X ++ updL A (ti s))) (inv pre))
      (fun pre => consI (fun cs : Code × σ => recI l { r with state := .done, pending := some cs.1 } :: (X ++ updL A (ti cs.2))) (fun cs => jumpC cs.1 ∧ invX cs.1 pre cs.2)) l val T dec L := by
  obtain ⟨C, hC⟩ : ∃ C : List α → Itm, C = fun pre => consI (fun s => recI l { r with state := .ready } :: (X ++ updL A (ti s))) (inv pre) := ⟨_, rfl⟩
  obtain ⟨Cx, hCx⟩ : ∃ C : List α → Itm, C = fun pre => consI (fun cs : Code × σ => recI l { r with state := .done, pending := some cs.1 } :: (X ++ updL A (ti cs.2))) (fun cs => jumpC cs.1 ∧ invX cs.1 pre cs.2) := ⟨_, rfl⟩
  rw [← hC, ← hCx]
  intro W js pre x hpre M
  have inC : ∀ ys s' W', inv ys s' → Mem w0 W' ((recI l { r with state := .ready } :: (X ++ updL A (ti s'))) ++ js) → Mem w0 W' (C ys :: js) := fun ys s' W' h M => by rw [hC]; exact mem_cons_in s' h M
  have inX : ∀ ys c s' W', jumpC c ∧ invX c ys s' → Mem w0 W' ((recI l { r with state := .done, pending := some c } :: (X ++ updL A (ti s'))) ++ js) → Mem w0 W' (Cx ys :: js) := fun ys c s' W' h M => by
    rw [hCx]; exact mem_cons_in (L := fun cs : Code × σ => recI l { r with state := .done, pending := some cs.1 } :: (X ++ updL A (ti cs.2))) (c, s') h M
  obtain ⟨s, hi, M⟩ : ∃ s, inv pre s ∧ Mem w0 W ((recI l { r with state := .ready } :: (X ++ updL A (ti s))) ++ (T x ++ js)) := by
    rw [hC] at M; exact mem_cons_out M
  clear hC hCx
  have hrd : ({ r with state := .ready } : Loop) = r := by rw [hr]
  have hlook : W.heap[l]? = some (.loop r) := by
    have := (mem_rec r M (n := 0) rfl).1
    rwa [hrd] at this
  have hy := run_yield (P := Tryd.prog) (args := #[val x]) hlook (by rw [hr]; rfl)
  have back : ∀ (r' : Loop) (is' : List Itm) (W' : World), Mem w0 W' (recI l r' :: (is' ++ [tailI (X ++ js)])) → Mem w0 W' ((recI l r' :: (X ++ is')) ++ js) := fun r' is' W' M' => by
    have h2 := mem_tail_out (L := recI l r' :: is') M'
    refine mem_perm (List.Perm.cons _ ?_) h2
    show (is' ++ (X ++ js)).Perm ((X ++ is') ++ js)
    rw [← List.append_assoc]
    exact List.Perm.append_right js List.perm_append_comm
  have M1 : Mem w0 W (recI l { r with state := .ready } :: (updL A (ti s) ++ tailI (X ++ js) :: T x)) := by
    have h1 : Mem w0 W ((recI l { r with state := .ready } :: (updL A (ti s) ++ T x)) ++ (X ++ js)) := mem_perm (by
      show ((recI l _ :: (X ++ updL A (ti s))) ++ (T x ++ js)).Perm _
      refine List.Perm.cons _ ?_
      show ((X ++ updL A (ti s)) ++ (T x ++ js)).Perm ((updL A (ti s) ++ T x) ++ (X ++ js))
      rw [List.append_assoc X, ← List.append_assoc (updL A (ti s)), ← List.append_assoc X, ← List.append_assoc (updL A (ti s) ++ T x)]
      exact List.Perm.append_right js List.perm_append_comm) M
    refine mem_perm (List.Perm.cons _ ?_) (mem_tail_in h1)
    show ((updL A (ti s) ++ T x) ++ [tailI (X ++ js)]).Perm _
    rw [List.append_assoc]
    exact List.Perm.append_left _ (List.perm_append_singleton _ _)
  refine ⟨fnr, _, assign, body, by rw [hr] at hy; exact hy, roundIn_of_wpIn trivial ?_⟩
  have hfold : (#[p].zip #[val x]).foldl (fun tmps (t, a) => tmps.setIfInBounds t a) a.tmps = a.tmps.setIfInBounds p (val x) := by simp
  refine round l r (X ++ js) pre x s hi hpre _ (roundPost Tryd.prog l (fun e W' => (e = .returned (.bool true) ∧ Mem w0 W' (C (pre ++ [x]) :: js)) ∨ (e = .returned (.bool false) ∧ Mem w0 W' (Cx (pre ++ [x]) :: js)))) (fun _ _ _ _ h => h.elim) (fun is' e' hG w' a' M' F' => ?_) (fun s' e' hi' w' a' M' F' => ?_) (fun s' e' hi' w' a' M' F' => ?_) (fun id s' e' hi' w' a' M' F' => ?_) W _ M1 (by
    have := fit_round (l := l) (v := val x) F hN
    rw [← hfold] at this
    exact this) (fun _ => ⟨hca, fun _ _ h => h⟩)
  · obtain ⟨h1, h2⟩ := mem_rec { r with state := .busy } M' (n := 0) rfl
    exact ⟨_, run_beginRound h1 rfl, hG _ _ h2 F' (fun _ => ⟨hcb, fun _ _ h => h⟩)⟩
  · obtain ⟨h1, h2⟩ := mem_rec { r with state := .ready, pending := none } M' (n := 0) rfl
    refine ⟨_, _, run_endRound none h1, .inl ⟨rfl, ?_⟩⟩
    have e1 : ({ r with state := .ready, pending := none } : Loop) = { r with state := .ready } := by rw [hr]
    have h3 : Mem w0 (w'.putObj l (.loop { r with state := .ready, pending := none })) ((recI l { r with state := .ready } :: (X ++ updL A (ti s'))) ++ js) := by
      have := back _ _ _ h2
      rw [e1] at this ⊢
      exact this
    exact inC _ s' _ hi' h3
  · obtain ⟨h1, h2⟩ := mem_rec { r with state := .done, pending := some .ret } M' (n := 0) rfl
    exact ⟨_, _, run_endRound (some .ret) h1, .inr ⟨rfl, inX _ .ret s' _ ⟨trivial, hi'⟩ (back _ _ _ h2)⟩⟩
  · obtain ⟨h1, h2⟩ := mem_rec { r with state := .done, pending := some (.exit id) } M' (n := 0) rfl
    exact ⟨_, _, run_endRound (some (.exit id)) h1, .inr ⟨rfl, inX _ (.exit id) s' _ ⟨trivial, hi'⟩ (back _ _ _ h2)⟩⟩
theorem gc_rangeF (nA : Nat) {X : List Itm} {Ds : List Nat} {nf : Nat} (hB : X.drop nA = B) (hg : evo e g = some (.func (.func gf) #[] lb.toArray)) (hfn : Tryd.prog.funcs[gf]? = some fn) (hb : fn.body.isNone = false) (hn : (fn.name == "runtime.NumGoroutine") = false) (hN : Nat.blt p nf = true)
    (hseq : SeqC w0 B gf lb val T dec L) (ti : σ → List (Nat × Itm)) (inv : List α → σ → Prop) (invX : Code → List α → σ → Prop) (s0 : σ) (h0 : inv [] s0) (hA : updL (X.take nA) (ti s0) = X.take nA) (hca : calmC assign = true) (hcb : calmC body = true)
    (round : RoundC w0 nf assign body p e val T dec L (X.take nA) ti inv invX)
    (done : ∀ (D : Nat) xs s, xs.map dec = L → inv xs s → GK w0 (dfsI (D :: Ds) :: (updL (X.take nA) (ti s) ++ B)) ⟨nf, D :: Ds, none⟩ (Q .normal) e)
    (stopR : ∀ (D : Nat) pre s, pre.map dec <+: L → invX .ret pre s → GK w0 (dfsI (D :: Ds) :: (updL (X.take nA) (ti s) ++ B)) ⟨nf, D :: Ds, none⟩ (Q .ret) e)
    (stopE : ∀ (D : Nat) id pre s, pre.map dec <+: L → invX (.exit id) pre s → GK w0 (dfsI (D :: Ds) :: (updL (X.take nA) (ti s) ++ B)) ⟨nf, D :: Ds, none⟩ (Q (.exit id)) e) :
    GC w0 (dfsI Ds :: X) ⟨nf, Ds, none⟩ (.rangeFunc g #[p] assign body) Q e := by
  intro w a M F R
  refine wpIn_rangeFunc ?_
  intro fnr _
  rw [show (At (⟨nf, Ds, none⟩ : Frm).rd).round = none from rfl]
  obtain ⟨r, hr⟩ : ∃ r : Loop, r = { state := .ready, pending := none, fn := fnr, tmps := a.tmps, params := #[p], assign, body, defers := w.heap.size } := ⟨_, rfl⟩
  obtain ⟨W1, hW1⟩ : ∃ W1, (w.alloc (.deferred (some []))).alloc (.loop r) = W1 := ⟨_, rfl⟩
  have hrd : ({ r with state := .ready } : Loop) = r := by rw [hr]
  have M0 := mem_dfs_new M (n := 0) rfl
  have M1 : Mem w0 W1 ((recI (w.heap.size + 1) { r with state := .ready } :: ([dfsI (w.heap.size :: Ds)] ++ updL (X.take nA) (ti s0))) ++ B) := by
    have h1 := mem_rec_new r M0
    rw [hW1, World.size_alloc] at h1
    rw [hrd, hA]
    refine mem_perm ?_ h1
    show ((dfsI (w.heap.size :: Ds) :: X) ++ [recI (w.heap.size + 1) r]).Perm _
    refine (List.perm_append_singleton _ _).trans (List.Perm.cons _ ?_)
    show (dfsI (w.heap.size :: Ds) :: X).Perm (([dfsI (w.heap.size :: Ds)] ++ X.take nA) ++ B)
    rw [← hB, List.append_assoc, List.take_append_drop]
    exact List.Perm.refl _
  have hY := yieldC_of (l := w.heap.size + 1) (r := r) (X := [dfsI (w.heap.size :: Ds)]) (fnr := fnr) (N := ⟨nf, Ds, none⟩) F hN hca hcb (by rw [hr]) round
  refine ⟨w.heap.size + 1, [markD w.heap.size], W1, { target := .fn (.func gf) lb.toArray, args := #[.func (.yield (w.heap.size + 1)) #[] #[]] }, W1, gf, #[.func (.yield (w.heap.size + 1)) #[] #[]] ++ lb.toArray, W1, ?_, ?_, fun _ _ => trivial, ?_, (fun h => by cases h), ?_⟩
  · rw [← hW1, hr]; exact run_enterLoop_outer _ _ _ _ _
  · simp only [resolve, fit_eval F hg]
    simp [go_sem, Act.eval]
  · simp [invoke, go_sem, run_invokeF hfn hb hn]
  · have hc := hseq _ _ _ hY W1 (mem_cons_in s0 h0 M1)
    rw [show (Value.func (.yield (w.heap.size + 1)) #[] #[] :: lb).toArray = #[.func (.yield (w.heap.size + 1)) #[] #[]] ++ lb.toArray by simp] at hc
    refine calls_in (hc.mono ?_)
    have F' : Fit ⟨nf, w.heap.size :: Ds, none⟩ e { a with defers := [markD w.heap.size] ++ a.defers } := ⟨F.size, by simp [F.defers], F.at_⟩
    have take : ∀ (r' : Loop) (s : σ) (W : World), Mem w0 W ((recI (w.heap.size + 1) r' :: ([dfsI (w.heap.size :: Ds)] ++ updL (X.take nA) (ti s))) ++ B) → W.heap[w.heap.size + 1]? = some (.loop r') ∧
        Mem w0 (W.putObj (w.heap.size + 1) (.loop { r' with state := .exhausted })) (dfsI (w.heap.size :: Ds) :: (updL (X.take nA) (ti s) ++ B)) := fun r' s W M' => by
      obtain ⟨h1, h2⟩ := mem_rec { r' with state := .exhausted } M' (n := 0) rfl
      exact ⟨h1, mem_erase 0 h2⟩
    rintro e' W2 ⟨⟨v, rfl⟩, (⟨xs, hL, M2⟩ | ⟨pre, hL, M2⟩)⟩
    · obtain ⟨s, hi, M3⟩ := mem_cons_out M2
      obtain ⟨h1, h2⟩ := take _ s W2 M3
      refine ⟨none, _, ?_, done _ xs s hL hi _ _ h2 F'⟩
      have := run_endLoop (P := Tryd.prog) h1 (by simp)
      rw [this]
      rw [show ({ r with state := .ready } : Loop).pending = none by rw [hr]]
    · obtain ⟨⟨c, s⟩, ⟨hj, hi⟩, M3⟩ := mem_cons_out M2
      obtain ⟨h1, h2⟩ := take _ s W2 M3
      refine ⟨some c, _, run_endLoop (P := Tryd.prog) h1 (by simp), ?_⟩
      cases c <;> first | exact hj.elim | skip
      · exact wpIn_exit (stopE _ _ pre s hL hi _ _ h2 F')
      · exact wpIn_ret (stopR _ pre s hL hi _ _ h2 F')
theorem gc_rangeN (nA : Nat) {X : List Itm} {l0 : Nat} {r0 : Loop} {nf : Nat} (hB : X.drop nA = B) (hg : evo e g = some (.func (.func gf) #[] lb.toArray)) (hfn : Tryd.prog.funcs[gf]? = some fn) (hb : fn.body.isNone = false) (hn : (fn.name == "runtime.NumGoroutine") = false) (hN : Nat.blt p nf = true)
    (hseq : SeqC w0 B gf lb val T dec L) (ti : σ → List (Nat × Itm)) (inv : List α → σ → Prop) (invX : Code → List α → σ → Prop) (s0 : σ) (h0 : inv [] s0) (hA : updL (X.take nA) (ti s0) = X.take nA) (hca : calmC assign = true) (hcb : calmC body = true)
    (round : RoundC w0 nf assign body p e val T dec L (X.take nA) ti inv invX)
    (done : ∀ xs s, xs.map dec = L → inv xs s → GK w0 (recI l0 r0 :: (updL (X.take nA) (ti s) ++ B)) ⟨nf, [], some l0⟩ (Q .normal) e)
    (stopR : ∀ pre s, pre.map dec <+: L → invX .ret pre s → GK w0 (recI l0 r0 :: (updL (X.take nA) (ti s) ++ B)) ⟨nf, [], some l0⟩ (Q .ret) e)
    (stopE : ∀ id pre s, pre.map dec <+: L → invX (.exit id) pre s → GK w0 (recI l0 r0 :: (updL (X.take nA) (ti s) ++ B)) ⟨nf, [], some l0⟩ (Q (.exit id)) e) :
    GC w0 (recI l0 r0 :: X) ⟨nf, [], some l0⟩ (.rangeFunc g #[p] assign body) Q e := by
  intro w a M F R
  refine wpIn_rangeFunc ?_
  intro fnr _
  rw [show (At (⟨nf, [], some l0⟩ : Frm).rd).round = some l0 from rfl]
  obtain ⟨r, hr⟩ : ∃ r : Loop, r = { state := .ready, pending := none, fn := fnr, tmps := a.tmps, params := #[p], assign, body, defers := r0.defers } := ⟨_, rfl⟩
  obtain ⟨W1, hW1⟩ : ∃ W1, w.alloc (.loop r) = W1 := ⟨_, rfl⟩
  have hrd : ({ r with state := .ready } : Loop) = r := by rw [hr]
  have hl0 := (mem_rec r0 M (n := 0) rfl).1
  have M1 : Mem w0 W1 ((recI w.heap.size { r with state := .ready } :: ([recI l0 r0] ++ updL (X.take nA) (ti s0))) ++ B) := by
    have h1 := mem_rec_new r M
    rw [hW1] at h1
    rw [hrd, hA]
    refine mem_perm ?_ h1
    refine (List.perm_append_singleton _ _).trans (List.Perm.cons _ ?_)
    show (recI l0 r0 :: X).Perm (([recI l0 r0] ++ X.take nA) ++ B)
    rw [← hB, List.append_assoc, List.take_append_drop]
    exact List.Perm.refl _
  have hY := yieldC_of (l := w.heap.size) (r := r) (X := [recI l0 r0]) (fnr := fnr) (N := ⟨nf, [], some l0⟩) F hN hca hcb (by rw [hr]) round
  refine ⟨w.heap.size, [], W1, { target := .fn (.func gf) lb.toArray, args := #[.func (.yield w.heap.size) #[] #[]] }, W1, gf, #[.func (.yield w.heap.size) #[] #[]] ++ lb.toArray, W1, ?_, ?_, fun _ _ => trivial, ?_, (fun h => by cases h), ?_⟩
  · rw [← hW1, hr]; exact run_enterLoop_inner hl0 _ _ _ _ _
  · simp only [resolve, fit_eval F hg]
    simp [go_sem, Act.eval]
  · simp [invoke, go_sem, run_invokeF hfn hb hn]
  · have hc := hseq _ _ _ hY W1 (mem_cons_in s0 h0 M1)
    rw [show (Value.func (.yield w.heap.size) #[] #[] :: lb).toArray = #[.func (.yield w.heap.size) #[] #[]] ++ lb.toArray by simp] at hc
    refine calls_in (hc.mono ?_)
    have take : ∀ (r' : Loop) (s : σ) (W : World), Mem w0 W ((recI w.heap.size r' :: ([recI l0 r0] ++ updL (X.take nA) (ti s))) ++ B) → W.heap[w.heap.size]? = some (.loop r') ∧
        Mem w0 (W.putObj w.heap.size (.loop { r' with state := .exhausted })) (recI l0 r0 :: (updL (X.take nA) (ti s) ++ B)) := fun r' s W M' => by
      obtain ⟨h1, h2⟩ := mem_rec { r' with state := .exhausted } M' (n := 0) rfl
      exact ⟨h1, mem_erase 0 h2⟩
    rintro e' W2 ⟨⟨v, rfl⟩, (⟨xs, hL, M2⟩ | ⟨pre, hL, M2⟩)⟩
    · obtain ⟨s, hi, M3⟩ := mem_cons_out M2
      obtain ⟨h1, h2⟩ := take _ s W2 M3
      refine ⟨none, _, ?_, done xs s hL hi _ _ h2 F⟩
      have := run_endLoop (P := Tryd.prog) h1 (by simp)
      rw [this]
      rw [show ({ r with state := .ready } : Loop).pending = none by rw [hr]]
    · obtain ⟨⟨c, s⟩, ⟨hj, hi⟩, M3⟩ := mem_cons_out M2
      obtain ⟨h1, h2⟩ := take _ s W2 M3
      refine ⟨some c, _, run_endLoop (P := Tryd.prog) h1 (by simp), ?_⟩
      cases c <;> first | exact hj.elim | skip
      · exact wpIn_exit (stopE _ pre s hL hi _ _ h2 F)
      · exact wpIn_ret (stopR pre s hL hi _ _ h2 F)
end
theorem leaves_marks {fn : Func} {tmps : Array Value} {R : Ending → World → Prop} {n : Nat} : ∀ (Ds : List Nat) {is : List Itm} (w : World), is[n]? = some (dfsI Ds) → Mem w0 w is →
    (∀ w', Mem w0 w' (is.set n nilI) → LeavesIn (At none) 0 Tryd.prog fn tmps R [] .returning w') → LeavesInM (At none) 0 Tryd.prog fn tmps R (Ds.map markD) .returning w
  | [], is, w, hi, M, h => by
    refine h w ?_
    obtain ⟨S, _, _, hset⟩ := mem_set M hi
    exact hset w nilI (FrS.refl _ _) trivial
  | D :: Ds, is, w, hi, M, h => by
    obtain ⟨S, _, hp, hset⟩ := mem_set M hi
    obtain ⟨h1, h2⟩ := hp.1 D (List.mem_cons_self ..)
    have hl := (Array.getElem?_eq_some_iff.1 h1).1
    have hnd := List.nodup_cons.1 hp.2
    have M' : Mem w0 (w.putObj D (.deferred none)) (is.set n (dfsI Ds)) := hset _ _ (frS_putObj h2) ⟨fun E hE => by
      obtain ⟨h3, h4⟩ := hp.1 E (List.mem_cons_of_mem _ hE)
      have hne : E ≠ D := by rintro rfl; exact hnd.1 hE
      exact ⟨(World.putObj_heap_other hne).trans h3, .inl h4⟩, hnd.2⟩
    have hn : n < is.length := (List.getElem?_eq_some_iff.1 hi).1
    have ih := leaves_marks (fn := fn) (tmps := tmps) (R := R) (n := n) Ds (w.putObj D (.deferred none)) (is := is.set n (dfsI Ds)) (by simp [hn]) M' fun w' M2 => h w' (by simpa using M2)
    exact ⟨by simp, .inl ⟨D, _, rfl, run_takeDeferred h1, ih⟩⟩
def postM (fn : Func) (R : Ending → World → Prop) : Exit → Act → World → Prop
  | .panic _, _, _ => False
  | e, a, w => bodyPostM (At none) 0 Tryd.prog fn R e a w
theorem postM_sub {fn : Func} {R : Ending → World → Prop} {e : Exit} {a : Act} {w : World} (h : postM fn R e a w) : bodyPostM (At none) 0 Tryd.prog fn R e a w := by
  cases e <;> first | exact h | exact h.elim
theorem gk_marks {fn : Func} {R : Ending → World → Prop} {n : Nat} {Ds : List Nat} (hi : is[n]? = some (dfsI Ds)) (hds : N.ds = Ds) (h : GK w0 (is.set n nilI) (Frm.of N.n) (bodyPost Tryd.prog fn R .ret) e) : GK w0 is N (postM fn R .ret) e := by
  intro w a M F
  show LeavesInM _ _ _ _ _ _ a.defers _ w
  rw [F.defers, hds]
  exact leaves_marks Ds w hi M fun w' M' => (h w' { a with defers := [] } M' ⟨F.size, rfl, F.at_⟩).2
theorem gc_enterK {f : FuncId} {c : Code} {args : List Value} {w : World} {R : Ending → World → Prop} {nf : Nat} {fn : Func} (M : Mem w0 w is) (hf : Tryd.prog.funcs[f]? = some fn) (hb : fn.body = some c) (hN : fn.ntmps = nf) (ha : args.length ≤ nf)
    (he : ∀ t v, look e t = some v → (args ++ List.replicate (nf - args.length) undef)[t]? = some v) (h : GC w0 (dfsI [] :: is) ⟨nf, [], none⟩ c (postM fn R) e) : Calls Tryd.prog f args.toArray w R := by
  refine calls_out (n := 0) (callsIn_of_wp_marks hf hb trivial (wpIn_mono (Q := postM fn R) ?_ fun _ _ _ => postM_sub) rfl)
  have M' : Mem w0 w (dfsI [] :: is) := ⟨M.1, fun _ => False, fun k => w0.heap.size ≤ k, fun _ h => h.elim, fun _ h => h, fun _ h => h.elim, ⟨(fun D hD => by cases hD), List.nodup_nil⟩, M.2⟩
  refine h w _ M' ⟨?_, rfl, fun t v hv => ?_⟩ (fun h => absurd rfl h)
  · rw [hN]; simp; omega
  · have := he t v hv
    rw [hN]
    have e1 : (args.toArray ++ Array.replicate (nf - args.toArray.size) undef) = (args ++ List.replicate (nf - args.length) undef).toArray := by simp
    show (args.toArray ++ Array.replicate (nf - args.toArray.size) undef)[t]? = some v
    rw [e1]; simpa using this
theorem run_yieldV {o : Oper} {x y : Operand} {ts : Array TypeId} {l : Nat} {v : Value} {a : Act} {w w' : World} {r : Next} (hop : o.op = .call { callee := .value x, args := #[y], argTypes := ts }) (hx : evo e x = some (.func (.yield l) #[] #[])) (hy : evo e y = some v) (F : Fit N e a)
    (hr : (Instr.yield l #[v]).run Tryd.prog w = .ok r w') : (execOp a.eval o).run Tryd.prog w = .ok r w' := by
  simp [execOp, hop, resolve, fit_eval F hx, fit_eval F hy, Deferred.ofValue, invoke, hr]
theorem g_yield {α β : Type} {ops : Array Oper} {o : Oper} {rest : List Oper} {d l : Nat} {x y : Operand} {ts : Array TypeId} {C Cx : List α → Itm} {val : α → Value} {T : α → List Itm} {dec : α → β} {L : List β} {pre : List α} (z : α) {js : List Itm}
    (hw : Want ops e o true) (hd : o.dst = some d) (hN : Nat.blt d N = true) (hop : o.op = .call { callee := .value x, args := #[y], argTypes := ts }) (hx : evo e x = some (.func (.yield l) #[] #[])) (hy : evo e y = some (val z)) (Y : YieldC w0 C Cx l val T dec L)
    (hpre : ((pre ++ [z]).map dec) <+: L) (his : is.Perm (C pre :: (T z ++ js))) (h1 : G w0 (C (pre ++ [z]) :: js) N ops Q rest ((d, .bool true) :: e)) (h2 : G w0 (Cx (pre ++ [z]) :: js) N ops Q rest ((d, .bool false) :: e)) : G w0 is N ops Q (o :: rest) e := by
  intro w a M F R
  unfold wpListIn
  rw [if_pos (want_eq hw F)]
  refine ⟨fun _ _ => trivial, ?_⟩
  obtain ⟨fnr, tmps, assign, body, hr, hR⟩ := Y w js pre z hpre (mem_perm his M)
  rw [show (At N.rd).round = N.rd from rfl, calm_sem R.o, run_yieldV hop hx hy F hr, Oper.uponIn_round]
  refine ⟨(fun h => by cases h), ?_⟩
  refine RoundIn.mono (F := At N.rd) hR fun e' W' h => ?_
  rcases h with ⟨rfl, M'⟩ | ⟨rfl, M'⟩
  · show wpListIn _ _ _ _ _ _ (Act.put a o.dst _) W'
    rw [hd]
    exact h1 _ _ M' (fit_put F hN) R.r
  · show wpListIn _ _ _ _ _ _ (Act.put a o.dst _) W'
    rw [hd]
    exact h2 _ _ M' (fit_put F hN) R.r
theorem gc_seqD {nf : Nat} {Ds : List Nat} {rd : Option Nat} {x y : Code} (h : ∀ K : Act → World → Prop, (∀ {Ds : List Nat} (is : List Itm) (e : Env), GC w0 is ⟨nf, Ds, rd⟩ y Q e → GK w0 is ⟨nf, Ds, rd⟩ K e) → GC w0 is ⟨nf, Ds, rd⟩ x (Exit.then K Q) e) : GC w0 is ⟨nf, Ds, rd⟩ (.seq x y) Q e :=
  fun w a M F R => wpIn_seq (h _ (fun _ _ hy w a M F => hy w a M F (rdy_r (N := ⟨nf, Ds, rd⟩) R)) w a M F (rdy_l R))
theorem gc_loopD {nf : Nat} {Ds0 : List Nat} {c : Code} {σ : Type} (C : Env) (E : σ → Env) (ti : σ → List (Nat × Itm)) (D : σ → List Nat) (inv : σ → Prop) (μ : σ → Nat) (s0 : σ)
    (hC : Sub (E s0 ++ C) e) (ht : updL is (ti s0) = is) (hD : D s0 = Ds0) (h0 : inv s0)
    (round : ∀ s, inv s → ∀ K : Act → World → Prop, (∀ s', inv s' → μ s' < μ s → GK w0 (updL is (ti s')) ⟨nf, D s', none⟩ K (E s' ++ C)) → GC w0 (updL is (ti s)) ⟨nf, D s, none⟩ c (Exit.then K Q) (E s ++ C)) :
    GC w0 is ⟨nf, Ds0, none⟩ (.loop c) Q e := by
  intro w a M F R
  subst hD
  refine wpIn_loop (fun a w => ∃ s, inv s ∧ Fit ⟨nf, D s, none⟩ (E s ++ C) a ∧ Mem w0 w (updL is (ti s)))
    (fun a w => leastN fun n => ∃ s, inv s ∧ Fit ⟨nf, D s, none⟩ (E s ++ C) a ∧ Mem w0 w (updL is (ti s)) ∧ μ s = n) ⟨s0, h0, fit_sub hC F, by rw [ht]; exact M⟩ ?_
  rintro a w ⟨s1, i1, ha, hM⟩
  obtain ⟨⟨s, hi, ha2, hM2, hmu⟩, _⟩ := leastN_spec (p := fun n => ∃ s, inv s ∧ Fit ⟨nf, D s, none⟩ (E s ++ C) a ∧ Mem w0 w (updL is (ti s)) ∧ μ s = n) ⟨s1, i1, ha, hM, rfl⟩
  have hr := round s hi (fun a' w' => ∃ s', inv s' ∧ μ s' < μ s ∧ Fit ⟨nf, D s', none⟩ (E s' ++ C) a' ∧ Mem w0 w' (updL is (ti s'))) (fun s' h1 h2 w' a' M' F' => ⟨s', h1, h2, F', M'⟩) w a hM2 ha2 (fun h => absurd rfl h)
  refine Code.wpIn_mono (fun e a' w' q => ?_) hr
  cases e with
  | normal =>
    obtain ⟨s', h1, h2, h3, h4⟩ := q
    refine ⟨⟨s', h1, h3, h4⟩, ?_⟩
    have := (leastN_spec (p := fun n => ∃ s, inv s ∧ Fit ⟨nf, D s, none⟩ (E s ++ C) a' ∧ Mem w0 w' (updL is (ti s)) ∧ μ s = n) ⟨s', h1, h3, h4, rfl⟩).2
    show leastN _ < leastN _
    omega
  | exit _ => exact q
  | goto _ => exact q
  | ret => exact q
  | panic _ => exact q
  | outgrown => exact q
end
end Go.Proofs.YtfnneogadciimaaDoor
set_option linter.unusedSimpArgs false
set_option linter.unusedVariables false
set_option linter.unusedSectionVars false
namespace Go.Proofs.YtfnneogadciimaaDoor
open Go.RowKit
def TabW (w : World) : Prop := ∀ j, j < 64 → w.cell? ⟨0, j, none⟩ = some (.int .u8 (Lib.deBruijn64tab.getD j 0)) ∧ 0 < w.heap.size
theorem TabW.below {w w' : World} (h : TabW w) (hb : Below w.heap.size w w') : TabW w' := fun j hj =>
  ⟨(hb.cell (p := ⟨0, j, none⟩) (h j hj).2).trans (h j hj).1, Nat.lt_of_lt_of_le (h j hj).2 hb.size⟩
theorem TabW.mem {w0 w : World} {is : List Itm} (h : TabW w0) (M : Mem w0 w is) : TabW w := h.below M.1
abbrev vU (s : Nat) : Value := .int .u64 (s : Int)
theorem tz_core (x k idx : Nat) (w : World) (hx0 : ((x : Int) == 0) = false)
    (key : IntKind.u64.wrap (bits BinOp.and IntKind.u64 (x : Int) (IntKind.u64.wrap (-(x : Int))) * 285870213051353865) / 288230376151711744 = (idx : Int))
    (hi : idx < 64) (hk : k < 64) (hcell : w.cell? ⟨0, idx, none⟩ = some (.int .u8 k)) : Calls Tryd.prog 90 #[vU x] w (fun e w' => e = .returned (.int .i64 k) ∧ w' = w) := by
  go_enter Tryd.func90, Tryd.ntmps90
  go_wp2_with (simp only [key])
  go_ret
  exact ⟨rfl, rfl⟩
theorem tz_key (x a : Nat) (hx : x < 18446744073709551616) (hx0 : x ≠ 0) (hlow : x &&& (18446744073709551616 - x) = a) :
    IntKind.u64.wrap (bits BinOp.and IntKind.u64 (x : Int) (IntKind.u64.wrap (-(x : Int))) * 285870213051353865) / 288230376151711744 = ((a * 285870213051353865 % 18446744073709551616 / 288230376151711744 : Nat) : Int) := by
  have e1 : IntKind.u64.wrap (-(x : Int)) = ((18446744073709551616 - x : Nat) : Int) := by rw [IntKind.wrap_u64]; omega
  rw [e1, bits_and_u64_nat x _ hx (by omega), hlow, IntKind.wrap_u64]
  omega
def tzN (x : Nat) : Nat := Lib.ctz 64 x
theorem tz_any (w : World) (x : Nat) (hx0 : x ≠ 0) (hx : x < 18446744073709551616) (hT : TabW w) : Calls Tryd.prog 90 #[vU x] w (RetI w (tzN x)) := by
  obtain ⟨hlow, hk⟩ := Lib.lowest_bit 64 x hx0 hx
  obtain ⟨hi, htab⟩ := Lib.deBruijn64_at _ hk
  refine (tz_core x (Lib.ctz 64 x) (2 ^ Lib.ctz 64 x * 285870213051353865 % 18446744073709551616 / 288230376151711744) w (by simp; omega) (tz_key x _ hx hx0 hlow) hi hk ?_).mono ?_
  · rw [(hT _ hi).1, htab]
  · rintro e w' ⟨rfl, rfl⟩; exact ⟨rfl, Below.refl _ _⟩
def bitsN (s : Nat) : List Nat := (List.range 64).filter fun i => s.testBit i
theorem filter_least {p q : Nat → Bool} {k : Nat} : ∀ n, k < n → (∀ i, i < k → p i = false) → p k = true → (∀ i, q i = (p i && !(i == k))) → (List.range n).filter p = k :: (List.range n).filter q
  | 0, h, _, _, _ => by omega
  | n + 1, h, h0, hp, hq => by
    rw [List.range_succ, List.filter_append, List.filter_append]
    by_cases e : k = n
    · subst e
      have h1 : (List.range k).filter p = [] := List.filter_eq_nil_iff.2 fun i hi => by rw [h0 i (List.mem_range.1 hi)]; simp
      have h2 : (List.range k).filter q = [] := List.filter_eq_nil_iff.2 fun i hi => by rw [hq, h0 i (List.mem_range.1 hi)]; simp
      rw [h1, h2]; simp [hp, hq]
    · rw [filter_least n (by omega) h0 hp hq]
      have hne : (n == k) = false := by simp; omega
      have h3 : q n = p n := by rw [hq, hne]; simp
      have e2 : [n].filter p = [n].filter q := by simp only [List.filter_cons, List.filter_nil, h3]
      rw [e2]; rfl
theorem odd_bits (k m i : Nat) : (2 ^ k * (2 * m + 1)).testBit i = (decide (k ≤ i) && ((2 * m + 1).testBit (i - k))) := by
  rw [Nat.mul_comm, Nat.testBit_mul_two_pow]
theorem bits_next {s : Nat} (h0 : s ≠ 0) (h : s < 18446744073709551616) : bitsN s = tzN s :: bitsN (s &&& (s - 1)) ∧ tzN s < 64 ∧ s.testBit (tzN s) = true := by
  obtain ⟨m, hm, hk⟩ := Lib.ctzFrom_spec 64 s (by omega) h
  have e : tzN s = Lib.ctzFrom 64 s := by simp [tzN, Lib.ctz, h0]
  rw [e]
  generalize Lib.ctzFrom 64 s = k at hm hk
  have hs : ∀ i, s.testBit i = (decide (k ≤ i) && ((2 * m + 1).testBit (i - k))) := fun i => by rw [hm]; exact odd_bits k m i
  have hs1 : s - 1 = 2 ^ k * (2 * m) + (2 ^ k - 1) := by
    have : 0 < 2 ^ k := Nat.pow_pos (by decide)
    rw [hm, Nat.mul_add]; omega
  have ht : s.testBit k = true := by rw [hs]; simp [Nat.testBit_zero]
  refine ⟨filter_least 64 hk (fun i hi => ?_) ht (fun i => ?_), hk, ht⟩
  · rw [hs]; simp; intro h; omega
  · rw [Nat.testBit_and, hs1, Nat.testBit_two_pow_mul_add _ (by have : 0 < 2 ^ k := Nat.pow_pos (by decide); omega)]
    by_cases hik : i < k
    · rw [hs]; simp [hik, Nat.not_le.2 hik]
    · rw [if_neg hik]
      by_cases he : i = k
      · subst he; simp [Nat.testBit_zero]
      · obtain ⟨j, rfl⟩ : ∃ j, i = k + (j + 1) := ⟨i - k - 1, by omega⟩
        have e3 : k + (j + 1) - k = j + 1 := by omega
        have e4 : (k + (j + 1) == k) = false := by simp
        rw [hs, e3, e4, Nat.testBit_succ, Nat.testBit_succ]
        have d1 : (2 * m + 1) / 2 = m := by omega
        have d2 : (2 * m) / 2 = m := by omega
        rw [d1, d2]; simp
theorem bits_zero : bitsN 0 = [] := by decide
theorem and_pred_lt {s : Nat} (h : s < 18446744073709551616) (h0 : s ≠ 0) : s &&& (s - 1) < s := Nat.lt_of_le_of_lt Nat.and_le_right (by omega)
theorem mem_bits {s i : Nat} (h : s < 18446744073709551616) : i ∈ bitsN s ↔ s.testBit i = true := by
  unfold bitsN
  rw [List.mem_filter, List.mem_range]
  refine ⟨fun h => h.2, fun hb => ⟨?_, hb⟩⟩
  by_cases hi : i < 64
  · exact hi
  · rw [Nat.testBit_lt_two_pow (Nat.lt_of_lt_of_le h (show 2 ^ 64 ≤ 2 ^ i from Nat.pow_le_pow_right (by decide) (by omega)))] at hb; cases hb
section
variable {w0 : World} {is : List Itm} {ops : Array Oper} {Q : Exit → Act → World → Prop} {o : Oper} {rest : List Oper} {N : Frm} {e : Env} {v : Value} {d : Nat} {K : Act → World → Prop}
theorem qt_andU {x y : Operand} {t u : TypeId} {a b : Nat} (hop : o.op = .binOp .and t x y u) (hx : evo e x = some (vU a)) (hy : evo e y = some (vU b)) (ha : a < 18446744073709551616) (hb : b < 18446744073709551616) : QV w0 is o e (vU (a &&& b)) :=
  fun w ac M F => by
    have hx := F _ _ hx; have hy := F _ _ hy
    simp [execOp, hop, hx, hy, go_sem, bits_and_u64_nat a b ha hb]
theorem qt_orU {x y : Operand} {t u : TypeId} {a b : Nat} (hop : o.op = .binOp .or t x y u) (hx : evo e x = some (vU a)) (hy : evo e y = some (vU b)) (ha : a < 18446744073709551616) (hb : b < 18446744073709551616) : QV w0 is o e (vU (a ||| b)) :=
  fun w ac M F => by
    have hx := F _ _ hx; have hy := F _ _ hy
    simp [execOp, hop, hx, hy, go_sem, bits_or_u64_nat a b ha hb]
theorem qt_subU {x : Operand} {t u : TypeId} {a : Nat} (hop : o.op = .binOp .sub t x (.const (vU 1)) u) (hx : evo e x = some (vU a)) (h0 : a ≠ 0) (ha : a < 18446744073709551616) : QV w0 is o e (vU (a - 1)) :=
  fun w ac M F => by
    have hx := F _ _ hx; have hy := F (.const (vU 1)) _ rfl
    have hw : IntKind.u64.wrap ((a : Int) - 1) = ((a - 1 : Nat) : Int) := by rw [IntKind.wrap_u64]; omega
    simp [execOp, hop, hx, hy, go_sem, Op.intArith]
    simpa using hw
end
def onlyN (n : Int) : Nat := if 0 ≤ n ∧ n < 64 then 2 ^ n.toNat else 0
theorem only_shl (a : Nat) : IntKind.u64.wrap (1 * 2 ^ min a 64) = ((onlyN (a : Int) : Nat) : Int) := by
  rw [IntKind.wrap_u64]
  unfold onlyN
  by_cases h : a < 64
  · rw [if_pos ⟨by omega, by omega⟩, Nat.min_eq_left (by omega)]
    have : 2 ^ a < 2 ^ 64 := Nat.pow_lt_pow_right (by decide) h
    have e : ((2 : Int) ^ a) = ((2 ^ a : Nat) : Int) := by simp
    rw [e]; simp only [Int.toNat_natCast]; generalize 2 ^ a = c at this ⊢; omega
  · rw [if_neg (by omega), Nat.min_eq_right (by omega)]; decide
def RetW (W : World) (s : Nat) (e : Ending) (w' : World) : Prop := e = .returned (vU s) ∧ Below W.heap.size W w'
theorem only_any (w : World) (n : Int) (h0 : -1 ≤ n) (h1 : n ≤ 4000000000000) : Calls Tryd.prog 88 #[.int .i64 n] w (RetW w (onlyN n)) := by
  obtain ⟨a, ha, hn⟩ : ∃ a : Nat, IntKind.u64.wrap n = (a : Int) ∧ onlyN n = onlyN (a : Int) := by
    rw [IntKind.wrap_u64]
    by_cases h : 0 ≤ n
    · exact ⟨n.toNat, by omega, by rw [show ((n.toNat : Nat) : Int) = n by omega]⟩
    · refine ⟨18446744073709551615, by omega, ?_⟩
      unfold onlyN
      rw [if_neg (by omega), if_neg (by decide)]
  have hs := only_shl a
  go_enter Tryd.func88, Tryd.ntmps88
  go_wp2_with (simp only [ha])
  rw [hn]
  first | (go_ret; exact ⟨by simpa using hs, Below.refl _ _⟩) | skip
end Go.Proofs.YtfnneogadciimaaDoor
