import Derived.Test.YtfnneogadciimaaDoorA16
import Derived.Test.YtfnneogadciimaaDoorA17
import Derived.Test.YtfnneogadciimaaDoorA18
import Derived.Test.YtfnneogadciimaaDoorA9
set_option linter.unusedSimpArgs false
set_option linter.unusedVariables false
set_option linter.unusedSectionVars false
namespace Go.Proofs.YtfnneogadciimaaDoor
open Go.RowKit
theorem only_bitN {n : Int} (h0 : 0 ≤ n) (h1 : n < 64) {i : Nat} : (onlyN n).testBit i = true ↔ (i : Int) = n := by
  have h := mem_bitsI (s := onlyN n) (only_lt n) (p := (i : Int)) (by omega)
  rw [Int.toNat_natCast] at h
  rw [← h, bits_only h0 h1]; simp
theorem accK_bit {κ : Int → Bool} : ∀ ps : List Int, (∀ p ∈ ps, 0 ≤ p ∧ p < 64) → ∀ i : Nat, ((accK κ ps).testBit i = true ↔ ∃ p ∈ ps, κ p = true ∧ (i : Int) = p) := list_snoc2 (fun _ i => by simp [accK]) fun ps p ih h i => by
  have hp := h p (by simp)
  have ih2 := ih (fun q hq => h q (by simp [hq])) i
  by_cases hk : κ p = true
  · rw [accK_t hk, Nat.testBit_or, Bool.or_eq_true, ih2, only_bitN hp.1 hp.2]
    constructor
    · rintro (⟨q, h1, h2, h3⟩ | h3)
      · exact ⟨q, by simp [h1], h2, h3⟩
      · exact ⟨p, by simp, hk, h3⟩
    · rintro ⟨q, h1, h2, h3⟩
      rcases List.mem_append.1 h1 with h1 | h1
      · exact .inl ⟨q, h1, h2, h3⟩
      · rcases List.mem_singleton.1 h1 with rfl; exact .inr h3
  · rw [accK_f hk, ih2]
    constructor
    · rintro ⟨q, h1, h2, h3⟩; exact ⟨q, by simp [h1], h2, h3⟩
    · rintro ⟨q, h1, h2, h3⟩
      rcases List.mem_append.1 h1 with h1 | h1
      · exact ⟨q, h1, h2, h3⟩
      · rcases List.mem_singleton.1 h1 with rfl; exact absurd h2 hk
theorem accK_in {κ : Int → Bool} {ps : List Int} (h : ∀ p ∈ ps, 0 ≤ p ∧ p < 64) {p : Int} : p ∈ bitsI (accK κ ps) ↔ p ∈ ps ∧ κ p = true := by
  by_cases h0 : 0 ≤ p
  · rw [mem_bitsI (accK_lt κ ps) h0, accK_bit ps h]
    have : ((p.toNat : Nat) : Int) = p := by omega
    rw [this]
    exact ⟨fun ⟨q, a, b, c⟩ => by subst c; exact ⟨a, b⟩, fun ⟨a, b⟩ => ⟨p, a, b, rfl⟩⟩
  · refine ⟨fun hp => ?_, fun hp => absurd (h p hp.1).1 h0⟩
    unfold bitsI at hp
    obtain ⟨m, _, rfl⟩ := List.mem_map.1 hp
    omega
theorem homTo_in {c : Cat} {x y : Int} {n : Nat} : ∀ p ∈ homTo c x y n, 0 ≤ p ∧ p < n := fun p hp => by
  unfold homTo at hp
  obtain ⟨j, hj, rfl⟩ := List.mem_map.1 hp
  have := List.mem_range.1 (List.mem_filter.1 hj).1
  omega
theorem lt_of_bits {s n : Nat} (h : ∀ i : Nat, s.testBit i = true → i < n) : s < 2 ^ n :=
  Nat.lt_pow_two_of_testBit s fun i hi => by
    cases hb : s.testBit i with
    | false => rfl
    | true => have := h i hb; omega
theorem comp_len (F G : Fct) (κ : Int → Bool) : (compW F G κ).length = F.o.length := by simp [compW]
theorem comp_mem {F G : Fct} {κ : Int → Bool} {s : Nat} (h : s ∈ compW F G κ) : ∃ x y, s = accK κ (homTo F.T x y F.T.s.length) := by
  unfold compW at h
  obtain ⟨j, _, rfl⟩ := List.mem_map.1 h
  exact ⟨_, _, rfl⟩
theorem comp_F {F G : Fct} {κ : Int → Bool} (h40 : F.T.s.length ≤ 40) : AllF (compW F G κ) := fun s hs => by
  obtain ⟨x, y, rfl⟩ := comp_mem hs
  have : accK κ (homTo F.T x y F.T.s.length) < 2 ^ 40 := lt_of_bits fun i hi => by
    obtain ⟨p, h1, _, h3⟩ := (accK_bit _ (fun p hp => by have := homTo_in p hp; omega) i).1 hi
    have := homTo_in p h1; omega
  simpa using this
theorem comp_L {F G : Fct} {κ : Int → Bool} (h40 : F.T.s.length ≤ 40) : ∀ s ∈ compW F G κ, ∀ p : Int, p ∈ bitsI s → p < F.T.s.length := fun s hs p hp => by
  obtain ⟨x, y, rfl⟩ := comp_mem hs
  have := (accK_in (fun p hp => by have := homTo_in p hp; omega)).1 hp
  exact (homTo_in p this.1).2
noncomputable def sqF (F G : Fct) (a p q : Int) : Bool := bP (F.T.th (at0 F.a a) q = F.T.th p (at0 G.a a))
theorem squareF_any (w : World) (a p q : Int) (B D : Nat) (v : Value) (F : Fct) (u : Value) (G : Fct) (h : RdF w v F) (e : RdF w u G) (hbB : BxV w B 45 v) (hbD : BxV w D 45 u) (hF : IsFct F) (hG : IsFct G) (hp : ParP F G) (a0 : 0 ≤ a) (a1 : a < F.S.s.length) (p0 : 0 ≤ p) (p1 : p < F.T.s.length) (q0 : 0 ≤ q) (q1 : q < F.T.s.length) :
    Calls Tryd.prog 106 #[.int .i64 a, .int .i64 p, .int .i64 q, .pointer (some ⟨B, 0, none⟩), .pointer (some ⟨D, 0, none⟩)] w (RetB w (sqF F G a p q)) := by
  have hT := (isCat_of hF.ct).toShapeP
  have lf := hF.la; have lg := hG.la
  rw [← hp.1] at lg
  have hf := allP_i hF.ia a0 (by omega)
  have hg := allP_i hG.ia a0 (by omega)
  rw [← hp.2] at hg
  have ml := hT.ml
  have hB := arrP hT hf.1 hf.2; have hC := arrP hT p0 p1
  have r1 := hB.row; have r2 := hC.row
  exact square_any w a p q B D v F u G h e hbB hbD a0 (by omega) (by omega) hf.1 (by omega) q0 (by omega) p0 (by omega) hg.1 (by omega)
def RetNat (W : World) (o1 : Int) (c1 c2 c3 c4 : Value) (n : Nat) (ss : List Nat) (P : List Nat → Prop) (e : Ending) (w' : World) : Prop :=
  ∃ (B1 B2 : Nat) (va : Option Addr) (vc : Nat) (fs : List Nat) (x : Option Addr), e = .returned (.func (.func 60) #[] #[.pointer (some ⟨B1, 0, none⟩), .pointer (some ⟨B2, 0, none⟩)]) ∧ P fs ∧
    Star [bxI B1 68 [.slice va ss.length vc], bxI B2 71 [.func (.func 73) #[.agg #[.int .i64 o1, c1, c2, c3, c4, .slice x n n]] #[]], ownGI elW (.slice va ss.length vc) ss, ownMI (.slice x n n) n fs] w' (fun k => W.heap.size ≤ k) ∧ Below W.heap.size W w'
section
variable {w0 : World} {is : List Itm} {ops : Array Oper} {Q : Exit → Act → World → Prop} {o : Oper} {rest : List Oper} {N : Frm} {n m : Nat} {e : Env} {v : Value} {d : Nat} {K : Act → World → Prop} {f : FuncId} {fn : Func} {ags : Array Operand} {ts : Array TypeId} {vs : List Value}
theorem go_callNat {o1 : Int} {c1 c2 c3 c4 : Value} {ss : List Nat} {P : List Nat → Prop} (hd : o.dst = some d) (hN : Nat.blt d N = true) (hop : o.op = .call { callee := .value (.func f), args := ags, argTypes := ts }) (hfn : Tryd.prog.funcs[f]? = some fn) (hb : fn.body.isNone = false) (hn : (fn.name == "runtime.NumGoroutine") = false)
    (hargs : evoL e ags.toList = some vs) (hc : ∀ w, Mem w0 w is → Calls Tryd.prog f vs.toArray w (RetNat w o1 c1 c2 c3 c4 n ss P))
    (hk : ∀ B1 B2 va vc fs x, P fs → GK w0 (is ++ [bxI B1 68 [.slice va ss.length vc], bxI B2 71 [.func (.func 73) #[.agg #[.int .i64 o1, c1, c2, c3, c4, .slice x n n]] #[]], ownGI elW (.slice va ss.length vc) ss, ownMI (.slice x n n) n fs]) N K ((d, .func (.func 60) #[] #[.pointer (some ⟨B1, 0, none⟩), .pointer (some ⟨B2, 0, none⟩)]) :: e)) : GO w0 is N o e Q K := by
  intro w a M F
  refine go_call hd hN F hop hfn hb hn hargs (hc w M) fun e' w' hR => ?_
  obtain ⟨B1, B2, va, vc, fs, x, rfl, hp, hs, hbl⟩ := hR
  exact ⟨_, rfl, fun a F => hk B1 B2 va vc fs x hp w' a (mem_news M hbl hs) F⟩
end
set_option maxHeartbeats 4000000 in
set_option maxRecDepth 100000 in
theorem natural_any (w : World) (x1 x2 x3 x4 x5 x6 x7 x8 x9 x10 : Option Addr) (n1 m1 n2 m2 n3 m3 n4 m4 n5 m5 n6 m6 n7 m7 n8 m8 n9 m9 n10 m10 : Nat) (F : Fct) (u : Value) (G : Fct) (kv : Value) (κ : Int → Bool) (hv : IsFn kv) (h : RdF w (.agg #[.int .i64 F.S.ob, .slice x1 n1 m1, .slice x2 n2 m2, .slice x3 n3 m3, .slice x4 n4 m4, .int .i64 F.T.ob, .slice x5 n5 m5, .slice x6 n6 m6, .slice x7 n7 m7, .slice x8 n8 m8, .slice x9 n9 m9, .slice x10 n10 m10]) F) (hc : RdC w (.agg #[.int .i64 F.S.ob, .slice x1 n1 m1, .slice x2 n2 m2, .slice x3 n3 m3, .slice x4 n4 m4]) F.S) (e : RdF w u G) (hT : TabW w) (hF : IsFct F) (hG : IsFct G) (hp : ParP F G) (hk : ∀ w', Below w.heap.size w w' → ∀ p : Int, 0 ≤ p → p < F.T.s.length → CallsV kv [.int .i64 p] w' (RetB w' (κ p))) :
    Calls Tryd.prog 48 #[.agg #[.int .i64 F.S.ob, .slice x1 n1 m1, .slice x2 n2 m2, .slice x3 n3 m3, .slice x4 n4 m4, .int .i64 F.T.ob, .slice x5 n5 m5, .slice x6 n6 m6, .slice x7 n7 m7, .slice x8 n8 m8, .slice x9 n9 m9, .slice x10 n10 m10], u, kv] w (RetNat w F.S.ob (.slice x1 n1 m1) (.slice x2 n2 m2) (.slice x3 n3 m3) (.slice x4 n4 m4) F.S.s.length (compW F G κ) (TabOK F.S (compW F G κ) (sqF F G))) := by
  have e0 := e
  obtain ⟨ux1, ux2, ux3, ux4, ux5, ux6, ux7, ux8, ux9, ux10, uk1, uk2, uk3, uk4, uk5, uk6, uk7, uk8, uk9, uk10, rfl, e1, e2, e3, e4, e5, e6, e7, e8, e9, e10⟩ := e.lists
  have hS := (isCat_of hF.cs).toShapeP; have hTs := (isCat_of hF.ct).toShapeP
  have t40 := hTs.n40
  have s8 := hS.ob8; have fo := hF.lo; have go := hG.lo
  have pg : G.S.ob = F.S.ob := by rw [hp.1]
  go_enter Tryd.func48, Tryd.ntmps48
  refine gc_enter (N := 22) rfl (look_cons (k := 0) rfl (look_cons (k := 1) rfl (look_cons (k := 2) rfl (look_nil _)))) ?_
  refine gc_seq fun K1 hK1 => ?_
  refine gc_region ?_
  refine g_op (.free rfl) fun K3 hK3 => ?_
  refine go_box rfl rfl rfl rfl rfl ?_
  intro B2
  refine hK3 _ _ ?_
  refine g_op (.free rfl) fun K5 hK5 => ?_
  refine go_box rfl rfl rfl rfl rfl ?_
  intro B4
  refine hK5 _ _ ?_
  refine g_v (.free rfl) rfl rfl (qt_assign rfl rfl) ?_
  refine g_nil ?_
  refine gk_then (hK1 _ _ ?_)
  refine gc_seq fun K6 hK6 => ?_
  refine gc_region ?_
  refine g_v (.free rfl) rfl rfl (qt_loadS (n := 0) rfl rfl Tryd.underlying45 rfl (by kernel_rfl) rfl) ?_
  refine g_v (.free rfl) rfl rfl (qt_loadS (n := 1) rfl rfl Tryd.underlying45 rfl (by kernel_rfl) rfl) ?_
  refine g_v (.free rfl) rfl rfl (qt_move rfl rfl) ?_
  refine g_op (.free rfl) fun K8 hK8 => ?_
  refine go_callG rfl rfl rfl Tryd.func70 rfl (by decide) rfl (fun w M => components_any w _ _ _ _ _ (by first | assumption | omega) (mem_rdF M h) (mem_rdF M e0) (hTs) (by omega) (by omega) (fun w' hb p p0 p1 => hk w' (M.1.trans (hb.mono M.1.size)) p p0 p1)) ?_
  intro va7 vc7
  refine hK8 _ _ ?_
  refine g_v (.free rfl) rfl rfl (qt_assign rfl rfl) ?_
  refine g_nil ?_
  refine gk_then (hK6 _ _ ?_)
  refine gc_seq fun K9 hK9 => ?_
  try simp only [List.nil_append, List.cons_append, List.append_assoc, List.set_cons_succ, List.set_cons_zero]
  refine ga_start _ (fun w M => M) ?_
  refine ga_v 0 rfl (by kernel_rfl) (by kernel_rfl) (by kernel_rfl) (.free rfl) rfl rfl (qt_move rfl rfl) (fun _ _ _ h => h) ?_
  refine ga_v 1 rfl (by kernel_rfl) (by kernel_rfl) (by kernel_rfl) (.free rfl) rfl rfl (qt_field (z := 4) (off := 0) rfl rfl Tryd.underlying45 rfl (by kernel_rfl) rfl) (fun _ _ _ h => h) ?_
  refine ga_v 2 rfl (by kernel_rfl) (by kernel_rfl) (by kernel_rfl) (.free rfl) rfl rfl (qt_loadP (n := 0) (z := 5) rfl rfl Tryd.underlying30 rfl (by kernel_rfl) rfl (by first | decide | exact Nat.le_refl _ | simp)) (fun _ _ _ h => h) ?_
  refine ga_v 3 rfl (by kernel_rfl) (by kernel_rfl) (by kernel_rfl) (.free rfl) rfl rfl (qt_move rfl rfl) (fun _ _ _ h => h) ?_
  refine ga_v 4 rfl (by kernel_rfl) (by kernel_rfl) (by kernel_rfl) (.free rfl) rfl rfl (qt_loadS (n := 0) rfl rfl Tryd.underlying45 rfl (by kernel_rfl) rfl) (fun _ _ _ h => h) ?_
  refine ga_v 5 rfl (by kernel_rfl) (by kernel_rfl) (by kernel_rfl) (.free rfl) rfl rfl (qt_loadS (n := 1) rfl rfl Tryd.underlying45 rfl (by kernel_rfl) rfl) (fun _ _ _ h => h) ?_
  refine ga_op 6 (by kernel_rfl) rfl (.free rfl) fun K11 hK11 => ?_
  refine go_callSq rfl rfl rfl Tryd.func72 rfl (by decide) rfl (fun w M => squaresTo_any w _ _ _ _ (mem_rdF M h) (mem_rdF M e0)) ?_
  intro B10 D10
  refine hK11 _ _ (fun w M => (mem_take 3 M :)) ?_
  refine ga_op 7 (by kernel_rfl) rfl (.free rfl) fun K13 hK13 => ?_
  refine go_callTb rfl rfl rfl Tryd.func71 rfl (by decide) rfl (fun w M => tabSq_any w _ _ _ _ _ _ _ _ _ _ _ _ F.S _ (compW F G κ) _ (sqF F G) (F.T.s.length : Int) (by omega) ⟨_, _, _, rfl⟩ (mem_rdC M hc) (mem_ownG (n := 2) rfl M) (hT.mem M) hS (by rw [comp_len]; exact hF.lo) (comp_F t40) (comp_L t40) (fun w' hb a p q a0 a1 p0 p1 q0 q1 => callsV_f (bnd := []) (vs := [_, _, _]) (caps := [_, _]) Tryd.func106 rfl (by decide) (squareF_any w' a p q _ _ _ F _ G (rdF_below hb (mem_rdF M h)) (rdF_below hb (mem_rdF M e0)) (bxV_below hb (bxV_of (n := 3) M rfl)) (bxV_below hb (bxV_of (n := 4) M rfl)) hF hG hp a0 a1 p0 p1 q0 q1))) ?_
  intro fs12 fx12 hok12
  refine hK13 _ _ (fun w M => (mem_take 3 M :)) ?_
  refine ga_op 8 (by kernel_rfl) rfl (.free rfl) fun K14 hK14 => ?_
  refine go_v rfl rfl (qt_makeFB2 rfl rfl) ?_
  refine hK14 _ _ (fun w M => (mem_take 3 M :)) ?_
  refine ga_op 9 (by kernel_rfl) rfl (.free rfl) fun K16 hK16 => ?_
  refine go_callLis rfl rfl rfl Tryd.func42 rfl (by decide) rfl (fun w M => lists_any w _ _ rfl ⟨_, _, _, rfl⟩) ?_
  intro B15 D15
  refine hK16 _ _ (fun w M => (mem_take 3 M :)) ?_
  refine ga_v 10 rfl (by kernel_rfl) (by kernel_rfl) (by kernel_rfl) (.free rfl) rfl rfl (qt_assign rfl rfl) (fun _ _ _ h => h) ?_
  refine ga_done (by kernel_rfl) ?_
  refine gk_then (hK9 _ _ ?_)
  refine gc_ret ?_
  refine ret_1 rfl rfl  (fun w M => ?_)
  exact ⟨_, _, _, _, _, _, rfl, (by assumption), (mem_take 4 (mem_pick (n := 7) (mem_pick (n := 7) (mem_pick (n := 3) (mem_pick (n := 5) (M) rfl) rfl) rfl) rfl)).2, M.1⟩
end Go.Proofs.YtfnneogadciimaaDoor
set_option linter.unusedSimpArgs false
set_option linter.unusedVariables false
set_option linter.unusedSectionVars false
namespace Go.Proofs.YtfnneogadciimaaDoor
open Go.RowKit
theorem bits_lt {s : Nat} (hs : s < 1099511627776) {p : Int} (p0 : 0 ≤ p) (h : s.testBit p.toNat = true) : p ∈ bitsI s := (mem_bitsI (by omega) p0).2 h
def NatP (F G : Fct) (l : List Int) : Prop := ∀ a : Nat, a < F.S.s.length → SqP F G l a
noncomputable def natL (F G : Fct) (κ : Int → Bool) : List (List Int) := sols (NatP F G) (compW F G κ)
theorem tab_W {c : Cat} {ss fs : List Nat} {sq : Int → Int → Int → Bool} (ok : TabOK c ss sq fs) : AllW fs := fun s hs => by
  obtain ⟨i, hi, rfl⟩ := List.mem_iff_getElem.1 hs
  have hl := ok.len
  have h1 : i / 40 < c.s.length := by omega
  have h2 : i % 40 < 40 := Nat.mod_lt _ (by omega)
  have hg := ok.get (i / 40) (i % 40) h1 h2
  have e : atM fs ((i / 40 : Nat) : Int) ((i % 40 : Nat) : Int) = fs[i] := by
    unfold atM; rw [Int.toNat_natCast, Int.toNat_natCast, show i / 40 * 40 + i % 40 = i by omega, List.getD_eq_getElem?_getD, List.getElem?_eq_getElem hi]; rfl
  rw [← e, hg]; unfold tabE
  split
  · exact accK_lt _ _
  · omega
theorem fits_nat {F G : Fct} {κ : Int → Bool} {fs : List Nat} {l : List Int} (hF : IsFct F) (ok : TabOK F.S (compW F G κ) (sqF F G) fs) (hl : InW (compW F G κ) l) : FitsW F.S fs l ↔ NatP F G l := by
  have hS := (isCat_of hF.cs).toShapeP; have t40 := (isCat_of hF.ct).toShapeP.n40
  have hA : AllF (compW F G κ) := comp_F t40
  have hn : ((compW F G κ).length : Int) = F.S.ob := by rw [comp_len]; exact hF.lo
  have key : ∀ a : Nat, a < F.S.s.length → ((atM fs (a : Int) (at0 l (at0 F.S.s (a : Int)))).testBit (at0 l (at0 F.S.t (a : Int))).toNat = true ↔ SqP F G l a) := fun a ha => by
    have hs := allP_at hS.sa (k := a) ha
    have ht := allP_at hS.ta (k := a) (by have := hS.tl; omega)
    have at_ : ∀ x : Int, 0 ≤ x → x < F.S.ob → 0 ≤ at0 l x ∧ at0 l x ∈ bitsI (atW (compW F G κ) x) ∧ at0 l x < 40 := fun x x0 x1 => by
      obtain ⟨i, rfl⟩ := Int.eq_ofNat_of_zero_le x0
      have h := hl.2 i (by omega)
      have hm := bits_lt (atW_F hA _) h.1 h.2
      exact ⟨h.1, hm, (bits40 (atW_F hA _) hm).2.1⟩
    obtain ⟨p0, pm, p4⟩ := at_ _ hs.1 hs.2
    obtain ⟨q0, qm, q4⟩ := at_ _ ht.1 ht.2
    obtain ⟨p, hp⟩ : ∃ p, p = at0 l (at0 F.S.s (a : Int)) := ⟨_, rfl⟩
    obtain ⟨q, hq⟩ : ∃ q, q = at0 l (at0 F.S.t (a : Int)) := ⟨_, rfl⟩
    unfold SqP
    rw [← hp, ← hq]
    rw [← hp] at p0 pm p4
    rw [← hq] at q0 qm q4
    have hg := ok.get a p.toNat ha (by omega)
    rw [show ((p.toNat : Nat) : Int) = p by omega] at hg
    rw [hg]
    unfold tabE; rw [if_pos pm]; unfold entW
    have hb : ∀ z ∈ bitsI (tgtW F.S (compW F G κ) (a : Int) p), 0 ≤ z ∧ z < 64 := fun z hz => by
      unfold tgtW at hz; split at hz
      · rw [bits_only p0 (by omega)] at hz; rcases List.mem_singleton.1 hz with rfl; omega
      · have := bits40 (atW_F hA _) hz; omega
    have hqt : q ∈ bitsI (tgtW F.S (compW F G κ) (a : Int) p) := by
      unfold tgtW; split
      · rename_i e; rw [bits_only p0 (by omega), hq, ← e, ← hp]; exact List.mem_singleton.2 rfl
      · exact qm
    rw [accK_bit _ hb]
    have e : ((q.toNat : Nat) : Int) = q := by omega
    rw [e]
    constructor
    · rintro ⟨z, _, h2, rfl⟩; exact bP_t' h2
    · intro h; exact ⟨q, hqt, bP_t h, rfl⟩
  exact ⟨fun h a ha => (key a ha).1 (h a ha), fun h a ha => (key a ha).2 (h a ha)⟩
theorem sols_nat {F G : Fct} {κ : Int → Bool} {fs : List Nat} (hF : IsFct F) (ok : TabOK F.S (compW F G κ) (sqF F G) fs) : sols (FitsW F.S fs) (compW F G κ) = natL F G κ := by
  have t40 := (isCat_of hF.ct).toShapeP.n40
  have hA : AllF (compW F G κ) := comp_F t40
  unfold natL sols
  refine List.filter_congr fun l hl => ?_
  have hi := (mem_prodW _ hA.w l).1 hl
  have := fits_nat hF ok hi
  by_cases h : NatP F G l
  · rw [bP_t h, bP_t (this.2 h)]
  · rw [bP_f h, bP_f (fun h2 => h (this.1 h2))]
theorem nar_F {w0 : World} {c : Cat} {c1 c2 c3 c4 vf : Value} {fs : List Nat} (hT : TabW w0) (hS : ShapeP c) (hf : AllW fs) {n : Nat} (hn : (n : Int) = c.ob) :
    NarF w0 (.func (.func 73) #[.agg #[.int .i64 c.ob, c1, c2, c3, c4, vf]] #[]) (fvI w0 (TabP c c1 c2 c3 c4 vf fs)) n (FitsW c fs) := fun w v ss R hl hs M => by
  refine callsV_f (bnd := [.agg #[.int .i64 c.ob, c1, c2, c3, c4, vf]]) (vs := [v]) (caps := []) Tryd.func73 rfl (by decide) ((narrow_any w0 w c c1 c2 c3 c4 vf fs v ss R hT hS (by omega) hs hf M).mono fun e w' h => ?_)
  obtain ⟨ss', he, hq, hx, M'⟩ := h
  have hl' := hq.sub.1
  exact ⟨ss', he, ⟨hq.sub, hq.F, fun l h1 h2 => hq.keep l h1 h2, fun _ l _ h1 => fix_fits hS (by omega) hq.F h1 fun a ha => (hx a ha).1⟩, M'⟩
theorem nat_seq {w0 : World} {B1 B2 : Nat} {va : Option Addr} {vc : Nat} {c1 c2 c3 c4 vf : Value} {fs : List Nat} {F G : Fct} {κ : Int → Bool} (hT : TabW w0) (hF : IsFct F) (ok : TabOK F.S (compW F G κ) (sqF F G) fs) :
    SeqC w0 [bxI B1 68 [.slice va (compW F G κ).length vc], bxI B2 71 [.func (.func 73) #[.agg #[.int .i64 F.S.ob, c1, c2, c3, c4, vf]] #[]], ownGI elW (.slice va (compW F G κ).length vc) (compW F G κ), fvI w0 (TabP F.S c1 c2 c3 c4 vf fs)]
      60 [.pointer (some ⟨B1, 0, none⟩), .pointer (some ⟨B2, 0, none⟩)] valL TL decL (natL F G κ) := by
  rw [← sols_nat hF ok]
  have hS := (isCat_of hF.cs).toShapeP; have t40 := (isCat_of hF.ct).toShapeP.n40
  have s8 := hS.ob8
  have hn : ((compW F G κ).length : Int) = F.S.ob := by rw [comp_len]; exact hF.lo
  exact lists_seq hT ⟨_, _, _, rfl⟩ (nar_F hT hS (tab_W ok) hn) rfl (comp_F t40) (by omega)
section
variable {w0 : World} {is : List Itm} {Q : Exit → Act → World → Prop} {N : Frm} {e : Env} {n : Nat}
theorem gc_tab {c : Cat} {c1 c2 c3 c4 vf : Value} {fs : List Nat} {x : Code} (h : is[n]? = some (ownMI vf c.s.length fs)) (hc : RdC w0 (.agg #[.int .i64 c.ob, c1, c2, c3, c4]) c) (hk : GC w0 (is.set n (fvI w0 (TabP c c1 c2 c3 c4 vf fs))) N x Q e) : GC w0 is N x Q e := fun w a M F => by
  obtain ⟨S, hS, hp, hset⟩ := mem_set M h
  refine hk w a (hset w _ (FrS.refl _ _) fun w' hb hk2 => ⟨rdC_below hb hc, ?_⟩) F
  have : OwnM vf c.s.length fs w' S := (ownM_loc vf c.s.length fs).keep (fun k _ hk => hk) (fun k h1 h2 => hk2 k h1 (.inl h2)) hp
  exact this.rd
end
noncomputable def fAllTransformations (F G : Fct) : List (List Int) × Int := if parE F G = 0 then (if (natL F G fun _ => true).length ≤ 200 then (natL F G fun _ => true, 0) else ([], 3)) else ([], parE F G)
theorem alt_f {F G : Fct} (h : ¬ parE F G = 0) : fAllTransformations F G = ([], parE F G) := if_neg h
theorem alt_l {F G : Fct} (h : parE F G = 0) (h' : 201 ≤ (natL F G fun _ => true).length) : fAllTransformations F G = ([], 3) := by unfold fAllTransformations; rw [if_pos h, if_neg (by omega)]
theorem alt_t {F G : Fct} (h : parE F G = 0) (h' : (natL F G fun _ => true).length ≤ 200) : fAllTransformations F G = (natL F G fun _ => true, 0) := by unfold fAllTransformations; rw [if_pos h, if_pos h']
theorem retRI_n {w W : World} {c : Int} (hb : Below W.heap.size W w) : RetRI W [] c (.returned (.tuple #[.slice none 0 0, .int .i64 c])) w := ⟨_, rfl, sl2_nil _ _, hb⟩
theorem sl2_U {w0 w : World} {is : List Itm} {n : Nat} {v : Value} {us : List Value} {rows : List (List Int)} (M : Mem w0 w is) (h : is[n]? = some (own2U v us rows)) : Sl2 w w0.heap.size v rows := by
  obtain ⟨S, hS, hb⟩ := mem_get M h
  exact Own2.at (S := S) ⟨_, hb⟩ hS
set_option maxHeartbeats 1000000 in
set_option maxRecDepth 100000 in
theorem anyArrow_any (w : World) (p : Int) :
    Calls Tryd.prog 49 #[.int .i64 p] w (RetB w true) := by
  go_enter Tryd.func49, Tryd.ntmps49
  refine gc_enter (N := 3) rfl (look_cons (k := 0) rfl (look_nil _)) ?_
  refine gc_seq fun K1 hK1 => ?_
  refine gc_region ?_
  refine g_v (.free rfl) rfl rfl (qt_assign rfl rfl) ?_
  refine g_nil ?_
  refine gk_then (hK1 _ _ ?_)
  refine gc_seq fun K2 hK2 => ?_
  refine gc_region ?_
  refine g_v (.free rfl) rfl rfl (qt_assign rfl rfl) ?_
  refine g_nil ?_
  refine gk_then (hK2 _ _ ?_)
  refine gc_ret ?_
  refine ret_1 rfl rfl  (fun w M => ?_)
  exact ⟨rfl, M.1⟩
set_option maxHeartbeats 4000000 in
set_option maxRecDepth 100000 in
theorem impl_AllT (w : World) (v : Value) (F : Fct) (u : Value) (G : Fct) (h : RdF w v F) (e : RdF w u G) (hT : TabW w) :
    Calls Tryd.prog 21 #[v, u] w (RetRI w (fAllTransformations F G).1 (fAllTransformations F G).2) := by
  have h0 := h
  obtain ⟨vx1, vx2, vx3, vx4, vx5, vx6, vx7, vx8, vx9, vx10, vk1, vk2, vk3, vk4, vk5, vk6, vk7, vk8, vk9, vk10, rfl, h1, h2, h3, h4, h5, h6, h7, h8, h9, h10⟩ := h.lists
  have e0 := e
  obtain ⟨ux1, ux2, ux3, ux4, ux5, ux6, ux7, ux8, ux9, ux10, uk1, uk2, uk3, uk4, uk5, uk6, uk7, uk8, uk9, uk10, rfl, e1, e2, e3, e4, e5, e6, e7, e8, e9, e10⟩ := e.lists
  refine gc_enterK (nf := 27) (args := [_, _]) (mem_nil w) Tryd.func21 rfl rfl (Nat.le_of_ble_eq_true rfl) (look_cons (k := 0) rfl (look_cons (k := 1) rfl (look_nil _))) ?_
  refine gc_seqD fun K1 hK1 => ?_
  refine gc_region ?_
  refine g_op (.free rfl) fun K3 hK3 => ?_
  refine go_box rfl rfl rfl rfl rfl ?_
  intro B2
  refine hK3 _ _ ?_
  refine g_op (.free rfl) fun K5 hK5 => ?_
  refine go_box rfl rfl rfl rfl rfl ?_
  intro B4
  refine hK5 _ _ ?_
  refine g_op (.free rfl) fun K7 hK7 => ?_
  refine go_alloc (z := (.slice none 0 0)) (cs := [.slice none 0 0]) rfl rfl rfl (fun w => by kernel_rfl) rfl ?_
  intro B6
  refine hK7 _ _ ?_
  refine g_op (.free rfl) fun K9 hK9 => ?_
  refine go_alloc (z := (.int .i64 0)) (cs := [.int .i64 0]) rfl rfl rfl (fun w => by kernel_rfl) rfl ?_
  intro B8
  refine hK9 _ _ ?_
  refine g_nil ?_
  refine gk_then (hK1 _ _ ?_)
  refine gc_seqD fun K10 hK10 => ?_
  refine gc_seqD fun K11 hK11 => ?_
  refine gc_region ?_
  refine g_v (.free rfl) rfl rfl (qt_loadS (n := 1) rfl rfl Tryd.underlying45 rfl (by kernel_rfl) rfl) ?_
  refine g_v (.free rfl) rfl rfl (qt_loadS (n := 2) rfl rfl Tryd.underlying45 rfl (by kernel_rfl) rfl) ?_
  refine g_q (.free rfl) rfl rfl (qt_call rfl Tryd.func47 rfl (by decide) rfl (fun w M => checkPar_any w _ _ _ _ (mem_rdF M h0) (mem_rdF M e0))) ?_
  refine g_v (.free rfl) rfl rfl (qt_assign rfl rfl) ?_
  refine g_nil ?_
  refine gk_then (hK11 _ _ ?_)
  refine gc_seqD fun K12 hK12 => ?_
  refine gc_region ?_
  refine g_v (.free rfl) rfl rfl (qt_move rfl rfl) ?_
  refine g_v (.free rfl) rfl rfl (qt_neq rfl rfl rfl) ?_
  refine g_nil ?_
  refine gk_then (hK12 _ _ ?_)
  refine gc_cond rfl (fun hc0 => ?_) (fun hc0 => ?_)
  · try simp only [decide_eq_true_eq, decide_eq_false_iff_not, Bool.not_eq_true', Bool.not_eq_false', Bool.not_eq_eq_eq_not, Bool.not_true, Bool.not_false, ne_eq, Decidable.not_not, Classical.not_not] at hc0
    refine gc_seqD fun K13 hK13 => ?_
    refine gc_region ?_
    refine g_v (.free rfl) rfl rfl (qt_move rfl rfl) ?_
    refine g_op (.free rfl) fun K14 hK14 => ?_
    refine go_storeB (n := 3) rfl rfl rfl rfl (by kernel_rfl) rfl rfl rfl (by first | decide | simp) ?_
    refine hK14 _ _ ?_
    refine g_op (.free rfl) fun K15 hK15 => ?_
    refine go_storeB (n := 4) rfl rfl rfl rfl (by kernel_rfl) rfl rfl rfl (by first | decide | simp) ?_
    refine hK15 _ _ ?_
    refine g_nil ?_
    refine gk_then (hK13 _ _ ?_)
    refine gc_ret ?_
    refine gk_then_ret ?_
    try simp only [List.nil_append, List.cons_append, List.append_assoc, List.set_cons_succ, List.set_cons_zero]
    refine gk_marks (n := 0) rfl rfl ?_
    simp only [List.set_cons_zero, List.set_cons_succ]
    refine ret_c2 (n := 3) (n' := 4) rfl rfl rfl Tryd.underlying23 rfl Tryd.underlying2 rfl rfl rfl (fun w M => ?_)
    rw [alt_f hc0]; exact retRI_n M.1
  · try simp only [decide_eq_true_eq, decide_eq_false_iff_not, Bool.not_eq_true', Bool.not_eq_false', Bool.not_eq_eq_eq_not, Bool.not_true, Bool.not_false, ne_eq, Decidable.not_not, Classical.not_not] at hc0
    refine gc_skip ?_
    refine gk_then (hK10 _ _ ?_)
    refine gc_seqD fun K16 hK16 => ?_
    have hz := parE_z hc0
    have hF := isf_of hz.1.1; have hG := isf_of hz.1.2; have hp := hz.2
    refine gc_region ?_
    refine g_op (.free rfl) fun K18 hK18 => ?_
    refine go_alloc (z := (.slice none 0 0)) (cs := [.slice none 0 0]) rfl rfl rfl (fun w => by kernel_rfl) rfl ?_
    intro B17
    refine hK18 _ _ ?_
    refine g_nil ?_
    refine gk_then (hK16 _ _ ?_)
    refine gc_seqD fun K19 hK19 => ?_
    refine gc_seqD fun K20 hK20 => ?_
    refine gc_nilU ?_
    refine gc_region ?_
    refine g_v (.free rfl) rfl rfl (qt_loadS (n := 1) rfl rfl Tryd.underlying45 rfl (by kernel_rfl) rfl) ?_
    refine g_v (.free rfl) rfl rfl (qt_loadS (n := 2) rfl rfl Tryd.underlying45 rfl (by kernel_rfl) rfl) ?_
    refine g_op (.free rfl) fun K22 hK22 => ?_
    refine go_callNat rfl rfl rfl Tryd.func48 rfl (by decide) rfl (fun w M => natural_any w _ _ _ _ _ _ _ _ _ _ _ _ _ _ _ _ _ _ _ _ _ _ _ _ _ _ _ _ _ _ F _ G _ (fun _ => true) ⟨_, _, _, rfl⟩ (mem_rdF M h0) (rdC_mk (mem_rd M h1) (mem_rd M h2) (mem_rd M h3) (mem_rd2 M h4)) (mem_rdF M e0) (hT.mem M) hF hG hp (fun w' hb p p0 p1 => callsV_f (bnd := []) (vs := [_]) (caps := []) Tryd.func49 rfl (by decide) (anyArrow_any w' p))) ?_
    intro B21 D21 nv21 nc21 fs21 fx21 hok21
    refine hK22 _ _ ?_
    refine g_nil ?_
    refine gk_then (hK20 _ _ ?_)
    refine gc_block ?_
    refine gc_tab (n := 10) rfl (rdC_mk h1 h2 h3 h4) ?_
    try simp only [List.nil_append, List.cons_append, List.append_assoc, List.set_cons_succ, List.set_cons_zero]
    refine gc_rangeF (α := LV) (σ := (Option Addr) × Nat × (List Value) × (List (List Int)) × Int) 6 rfl rfl Tryd.func60 rfl (by decide) rfl (nat_seq hT hF (by assumption)) (fun s : (Option Addr) × Nat × (List Value) × (List (List Int)) × Int => (fun (a : Option Addr) (q : Nat) (us : List Value) (rows : List (List Int)) (cd : Int) => ([(3, bxI B8 2 [.int .i64 cd]), (4, bxI B17 23 [.slice a rows.length q]), (5, own2U (.slice a rows.length q) us rows)] : List (Nat × Itm))) s.1 s.2.1 s.2.2.1 s.2.2.2.1 s.2.2.2.2) (fun (pre : List LV) => (fun s : (Option Addr) × Nat × (List Value) × (List (List Int)) × Int => (fun (a : Option Addr) (q : Nat) (us : List Value) (rows : List (List Int)) (cd : Int) => rows = pre.map decL ∧ rows.length ≤ 200 ∧ cd = 0) s.1 s.2.1 s.2.2.1 s.2.2.2.1 s.2.2.2.2)) (fun (c : Code) (pre : List LV) => (fun s : (Option Addr) × Nat × (List Value) × (List (List Int)) × Int => (fun (a : Option Addr) (q : Nat) (us : List Value) (rows : List (List Int)) (cd : Int) => c = .ret ∧ cd = 3 ∧ pre.length = 201) s.1 s.2.1 s.2.2.1 s.2.2.2.1 s.2.2.2.2)) (none, 0, [], [], 0) ⟨rfl, Nat.zero_le _, rfl⟩ rfl rfl rfl ?_ ?_ ?_ ?_
    · rintro l23 r23 js23 pre ⟨xv, xl⟩ ⟨a, q, us, rows, cd⟩ hinv hpre Ka23 Kb23 hKp23 hKa23 hKn23 hKr23 hKe23
      simp only [updL, List.foldl_cons, List.foldl_nil, List.take_succ_cons, List.take_zero, List.drop_succ_cons, List.drop_zero, List.set_cons_succ, List.set_cons_zero, List.cons_append, List.nil_append] at hinv hKn23 hKr23 hKe23 ⊢
      obtain ⟨rfl, hl2, rfl⟩ := hinv
      refine gc_region ?_
      refine g_v (.free rfl) rfl rfl (qt_assign rfl rfl) ?_
      refine g_nil ?_
      try simp only [List.nil_append, List.cons_append, List.append_assoc, List.set_cons_succ, List.set_cons_zero]
      refine gk_then (hKa23 _ _ ?_)
      refine gc_block ?_
      refine gc_seqD fun K24 hK24 => ?_
      refine gc_seqD fun K25 hK25 => ?_
      refine gc_region ?_
      refine g_v (.free rfl) rfl rfl (qt_loadB (n := 5) rfl rfl Tryd.underlying23 rfl rfl rfl) ?_
      refine g_v (.free rfl) rfl rfl (qt_len rfl rfl ulE2 (fun w M => lenV_U (n := 6) rfl M)) ?_
      refine g_v (.free rfl) rfl rfl (qt_eql rfl rfl rfl) ?_
      refine g_nil ?_
      refine gk_then (hK25 _ _ ?_)
      refine gc_cond rfl (fun hc1 => ?_) (fun hc1 => ?_)
      · try simp only [decide_eq_true_eq, decide_eq_false_iff_not, Bool.not_eq_true', Bool.not_eq_false', Bool.not_eq_eq_eq_not, Bool.not_true, Bool.not_false, ne_eq, Decidable.not_not, Classical.not_not] at hc1
        refine gc_seqD fun K26 hK26 => ?_
        refine gc_region ?_
        refine g_op (.free rfl) fun K27 hK27 => ?_
        refine go_storeB (n := 3) rfl rfl rfl rfl (by kernel_rfl) rfl rfl rfl (by first | decide | simp) ?_
        refine hK27 _ _ ?_
        refine g_op (.free rfl) fun K28 hK28 => ?_
        refine go_storeB (n := 4) rfl rfl rfl rfl (by kernel_rfl) rfl rfl rfl (by first | decide | simp) ?_
        refine hK28 _ _ ?_
        refine g_nil ?_
        refine gk_then (hK26 _ _ ?_)
        refine gc_ret ?_
        refine gk_then_ret ?_
        refine gk_block_ret ?_
        try simp only [List.nil_append, List.cons_append, List.append_assoc, List.set_cons_succ, List.set_cons_zero]
        refine gk_take 8 ?_
        refine hKr23 ((_, _, _, _, 3)) _ ?hi_29
        case hi_29 => exact ⟨by trivial, by trivial, by simp at hc1 ⊢; omega⟩
      · try simp only [decide_eq_true_eq, decide_eq_false_iff_not, Bool.not_eq_true', Bool.not_eq_false', Bool.not_eq_eq_eq_not, Bool.not_true, Bool.not_false, ne_eq, Decidable.not_not, Classical.not_not] at hc1
        refine gc_skip ?_
        refine gk_then (hK24 _ _ ?_)
        refine gc_region ?_
        refine g_v (.free rfl) rfl rfl (qt_loadB (n := 5) rfl rfl Tryd.underlying23 rfl rfl rfl) ?_
        refine g_v (.free rfl) rfl rfl (qt_move rfl rfl) ?_
        refine g_op (.free rfl) fun K31 hK31 => ?_
        refine go_sliceR1 (m := 8) rfl rfl rfl rfl Tryd.underlying23 rfl ?_
        intro B30
        refine hK31 _ _ ?_
        refine g_op (.free rfl) fun K33 hK33 => ?_
        refine go_appendRow (n := 6) (m := 8) (m' := 7) rfl rfl rfl Tryd.underlying23 rfl rfl rfl rfl rfl (by omega) ?_
        intro va32 vc32
        refine hK33 _ _ ?_
        refine g_op (.free rfl) fun K34 hK34 => ?_
        refine go_storeB (n := 5) rfl rfl rfl rfl (by kernel_rfl) rfl rfl rfl (by first | decide | simp) ?_
        refine hK34 _ _ ?_
        refine g_nil ?_
        refine gk_block ?_
        try simp only [List.nil_append, List.cons_append, List.append_assoc, List.set_cons_succ, List.set_cons_zero]
        refine gk_take 8 ?_
        refine hKn23 ((_, _, _, _, _)) _ ?hi_35
        case hi_35 => exact ⟨by simp [decL], by simp at hc1 hl2 ⊢; omega, by trivial⟩
    · rintro D23 xs ⟨a, q, us, rows, cd⟩ hL hinv
      simp only [updL, List.foldl_cons, List.foldl_nil, List.take_succ_cons, List.take_zero, List.drop_succ_cons, List.drop_zero, List.set_cons_succ, List.set_cons_zero, List.cons_append, List.nil_append] at *
      obtain ⟨rfl, hl2, rfl⟩ := hinv
      rw [hL] at hl2 ⊢
      refine gk_block ?_
      refine gk_then (hK19 _ _ ?_)
      refine gc_seqD fun K36 hK36 => ?_
      refine gc_region ?_
      refine g_v (.free rfl) rfl rfl (qt_loadB (n := 5) rfl rfl Tryd.underlying23 rfl rfl rfl) ?_
      refine g_op (.free rfl) fun K37 hK37 => ?_
      refine go_storeB (n := 3) rfl rfl rfl rfl (by kernel_rfl) rfl rfl rfl (by first | decide | simp) ?_
      refine hK37 _ _ ?_
      refine g_op (.free rfl) fun K38 hK38 => ?_
      refine go_storeB (n := 4) rfl rfl rfl rfl (by kernel_rfl) rfl rfl rfl (by first | decide | simp) ?_
      refine hK38 _ _ ?_
      refine g_nil ?_
      refine gk_then (hK36 _ _ ?_)
      refine gc_ret ?_
      try simp only [List.nil_append, List.cons_append, List.append_assoc, List.set_cons_succ, List.set_cons_zero]
      refine gk_marks (n := 0) rfl rfl ?_
      simp only [List.set_cons_zero, List.set_cons_succ]
      refine ret_c2 (n := 3) (n' := 4) rfl rfl rfl Tryd.underlying23 rfl Tryd.underlying2 rfl rfl rfl (fun w M => ?_)
      rw [alt_t hc0 hl2]; exact ⟨_, rfl, sl2_U (n := 6) M rfl, M.1⟩
    · rintro D23 pre ⟨a, q, us, rows, cd⟩ hL hinv
      simp only [updL, List.foldl_cons, List.foldl_nil, List.take_succ_cons, List.take_zero, List.drop_succ_cons, List.drop_zero, List.set_cons_succ, List.set_cons_zero, List.cons_append, List.nil_append] at *
      obtain ⟨_, rfl, h201⟩ := hinv
      have h202 : 201 ≤ (natL F G fun _ => true).length := by have := hL.length_le; simp at this; omega
      refine gk_block_ret ?_
      refine gk_then_ret ?_
      try simp only [List.nil_append, List.cons_append, List.append_assoc, List.set_cons_succ, List.set_cons_zero]
      refine gk_marks (n := 0) rfl rfl ?_
      simp only [List.set_cons_zero, List.set_cons_succ]
      refine ret_c2 (n := 3) (n' := 4) rfl rfl rfl Tryd.underlying23 rfl Tryd.underlying2 rfl rfl rfl (fun w M => ?_)
      rw [alt_l hc0 h202]; exact retRI_n M.1
    · rintro D23 id pre ⟨a, q, us, rows, cd⟩ hL hinv; exact absurd hinv (by simp)
end Go.Proofs.YtfnneogadciimaaDoor
set_option linter.unusedSimpArgs false
set_option linter.unusedVariables false
set_option linter.unusedSectionVars false
namespace Go.Proofs.YtfnneogadciimaaDoor
open Go.RowKit
def homK (F G : Fct) (κ : Int → Bool) (x : Int) : List Int := (homTo F.T (at0 F.o x) (at0 G.o x) F.T.s.length).filter κ
def okA (F G : Fct) (l : List Int) (a : Nat) : Prop := at0 l (at0 F.S.s (a : Int)) < 0 ∨ at0 l (at0 F.S.t (a : Int)) < 0 ∨ SqP F G l a
def touchA (F : Fct) (x : Int) (a : Nat) : Prop := at0 F.S.s (a : Int) = x ∨ at0 F.S.t (a : Int) = x
def fitA (F G : Fct) (c : List Int) (x : Nat) (p : Int) : Prop := ∀ a : Nat, a < F.S.s.length → touchA F (x : Int) a → okA F G (c.set x p) a
noncomputable def choL (F G : Fct) (κ : Int → Bool) (c : List Int) (x : Nat) : List Int := (homK F G κ (x : Int)).filter fun p => bP (fitA F G c x p)
def prodL : List (List Int) → List (List Int)
  | [] => [[]]
  | D :: Ds => D.flatMap fun p => (prodL Ds).map (p :: ·)
def domA (F G : Fct) (κ : Int → Bool) (c : List Int) (i : Nat) : List Int := if at0 c (i : Int) = -1 then homK F G κ (i : Int) else [at0 c (i : Int)]
def domL (F G : Fct) (κ : Int → Bool) (c : List Int) : List (List Int) := (List.range c.length).map (domA F G κ c)
noncomputable def solE (F G : Fct) (κ : Int → Bool) (c : List Int) : List (List Int) := (prodL (domL F G κ c)).filter fun l => bP (∀ a : Nat, a < F.S.s.length → okA F G l a)
theorem mem_prodL : ∀ (Ds : List (List Int)) (l : List Int), l ∈ prodL Ds ↔ l.length = Ds.length ∧ ∀ i : Nat, i < Ds.length → at0 l (i : Int) ∈ Ds.getD i []
  | [], l => by
    rw [prodL, List.mem_singleton]
    exact ⟨fun h => by subst h; exact ⟨rfl, fun i h => absurd h (by simp)⟩, fun h => List.eq_nil_of_length_eq_zero h.1⟩
  | D :: Ds, l => by
    rw [prodL, List.mem_flatMap]
    constructor
    · rintro ⟨p, hp, hl⟩
      obtain ⟨l', hl', rfl⟩ := List.mem_map.1 hl
      obtain ⟨h1, h2⟩ := (mem_prodL Ds l').1 hl'
      refine ⟨by simp [h1], fun i hi => ?_⟩
      cases i with
      | zero => exact hp
      | succ i => exact h2 i (by simpa using hi)
    · rintro ⟨h1, h2⟩
      cases l with
      | nil => simp at h1
      | cons p l' =>
        refine ⟨p, h2 0 (by simp), List.mem_map.2 ⟨l', (mem_prodL Ds l').2 ⟨by simpa using h1, fun i hi => h2 (i + 1) (by simpa using hi)⟩, rfl⟩⟩
theorem prodL_split : ∀ (Ds : List (List Int)) (x : Nat), x < Ds.length → (∀ i : Nat, i < x → ∃ p, Ds.getD i [] = [p]) → prodL Ds = (Ds.getD x []).flatMap fun p => prodL (Ds.set x [p])
  | [], x, h, _ => by simp at h
  | D :: Ds, 0, _, _ => by
    show (D.flatMap fun p => (prodL Ds).map (p :: ·)) = D.flatMap fun p => prodL ([p] :: Ds)
    congr 1; funext p; simp [prodL]
  | D :: Ds, x + 1, h, hb => by
    obtain ⟨q, hq⟩ := hb 0 (by omega)
    have hD : D = [q] := hq
    subst hD
    have ih := prodL_split Ds x (by simpa using h) (fun i hi => hb (i + 1) (by omega))
    show (([q] : List Int).flatMap fun p => (prodL Ds).map (p :: ·)) = (Ds.getD x []).flatMap fun p => prodL ([q] :: Ds.set x [p])
    rw [ih]
    simp [prodL, List.map_flatMap]
theorem flat_filter {α β : Type} {f : α → List β} {q : α → Bool} : ∀ D : List α, (∀ p ∈ D, q p = false → f p = []) → D.flatMap f = (D.filter q).flatMap f
  | [], _ => rfl
  | p :: D, h => by
    have ih := flat_filter D fun r hr => h r (List.mem_cons_of_mem _ hr)
    rw [List.flatMap_cons, ih, List.filter_cons]
    by_cases hq : q p = true
    · rw [if_pos hq, List.flatMap_cons]
    · rw [if_neg hq, h p (List.mem_cons_self ..) (by simpa using hq)]; rfl
theorem domL_len (F G : Fct) (κ : Int → Bool) (c : List Int) : (domL F G κ c).length = c.length := by simp [domL]
theorem domL_at {F G : Fct} {κ : Int → Bool} {c : List Int} {i : Nat} (h : i < c.length) : (domL F G κ c).getD i [] = domA F G κ c i := by
  unfold domL; rw [List.getD_eq_getElem?_getD, List.getElem?_map, List.getElem?_range h]; rfl
theorem mem_solE {F G : Fct} {κ : Int → Bool} {c l : List Int} : l ∈ solE F G κ c ↔ (l.length = c.length ∧ ∀ i : Nat, i < c.length → at0 l (i : Int) ∈ domA F G κ c i) ∧ ∀ a : Nat, a < F.S.s.length → okA F G l a := by
  unfold solE
  rw [List.mem_filter, mem_prodL, domL_len]
  refine and_congr (and_congr Iff.rfl ⟨fun h i hi => ?_, fun h i hi => ?_⟩) ⟨fun h => bP_t' h, fun h => bP_t h⟩
  · have := h i hi; rwa [domL_at hi] at this
  · rw [domL_at hi]; exact h i hi
structure ArrS (F : Fct) (c : List Int) : Prop where
  s : ∀ a : Nat, a < F.S.s.length → 0 ≤ at0 F.S.s (a : Int) ∧ at0 F.S.s (a : Int) < c.length
  t : ∀ a : Nat, a < F.S.s.length → 0 ≤ at0 F.S.t (a : Int) ∧ at0 F.S.t (a : Int) < c.length
theorem at0_set {c : List Int} {x : Nat} {p : Int} (hx : x < c.length) {i : Int} (i0 : 0 ≤ i) : at0 (c.set x p) i = if i = x then p else at0 c i := by
  obtain ⟨j, rfl⟩ := Int.eq_ofNat_of_zero_le i0
  show (c.set x p).getD (j : Int).toNat 0 = if (j : Int) = x then p else c.getD (j : Int).toNat 0
  rw [Int.toNat_natCast, List.getD_eq_getElem?_getD, List.getD_eq_getElem?_getD, List.getElem?_set]
  by_cases h : x = j
  · subst h; simp [hx]
  · have h2 : ¬ (j : Int) = x := by omega
    rw [if_neg h, if_neg h2]
theorem okA_less {F G : Fct} {c l : List Int} {a : Nat} (h : okA F G l a) (hs : at0 c (at0 F.S.s (a : Int)) < 0 ∨ at0 c (at0 F.S.s (a : Int)) = at0 l (at0 F.S.s (a : Int))) (ht : at0 c (at0 F.S.t (a : Int)) < 0 ∨ at0 c (at0 F.S.t (a : Int)) = at0 l (at0 F.S.t (a : Int))) : okA F G c a := by
  unfold okA SqP at *
  rcases hs with hs | hs
  · exact .inl hs
  · rcases ht with ht | ht
    · exact .inr (.inl ht)
    · rw [hs, ht]; exact h
theorem dom_less {F G : Fct} {κ : Int → Bool} {c l : List Int} {i : Nat} (h : at0 l (i : Int) ∈ domA F G κ c i) : at0 c (i : Int) < 0 ∨ at0 c (i : Int) = at0 l (i : Int) := by
  unfold domA at h; split at h
  · left; omega
  · right; exact (List.mem_singleton.1 h).symm
theorem sol_fit {F G : Fct} {κ : Int → Bool} {c l : List Int} (hA : ArrS F c) {x : Nat} (hx : x < c.length) (hl : l ∈ solE F G κ c) : fitA F G c x (at0 l (x : Int)) := fun a ha _ => by
  obtain ⟨⟨h1, h2⟩, h3⟩ := mem_solE.1 hl
  have key : ∀ i : Int, 0 ≤ i → i < c.length → at0 (c.set x (at0 l (x : Int))) i < 0 ∨ at0 (c.set x (at0 l (x : Int))) i = at0 l i := fun i i0 i1 => by
    rw [at0_set hx i0]
    obtain ⟨j, rfl⟩ := Int.eq_ofNat_of_zero_le i0
    by_cases e : (j : Int) = x
    · rw [if_pos e, e]; exact .inr rfl
    · rw [if_neg e]; exact dom_less (h2 j (by omega))
  exact okA_less (h3 a ha) (key _ (hA.s a ha).1 (hA.s a ha).2) (key _ (hA.t a ha).1 (hA.t a ha).2)
theorem solE_none {F G : Fct} {κ : Int → Bool} {c : List Int} (hA : ArrS F c) {y : Nat} (hy : y < c.length) (h1 : at0 c (y : Int) = -1) (h2 : choL F G κ c y = []) : solE F G κ c = [] := by
  refine List.eq_nil_iff_forall_not_mem.2 fun l hl => ?_
  have hf := sol_fit hA hy hl
  have hd := (mem_solE.1 hl).1.2 y hy
  unfold domA at hd; rw [if_pos h1] at hd
  have : at0 l (y : Int) ∈ choL F G κ c y := List.mem_filter.2 ⟨hd, bP_t hf⟩
  rw [h2] at this; cases this
theorem prodL_one : ∀ (Ds : List (List Int)) (l : List Int), l.length = Ds.length → (∀ i : Nat, i < Ds.length → Ds.getD i [] = [at0 l (i : Int)]) → prodL Ds = [l]
  | [], [], _, _ => rfl
  | [], _ :: _, h, _ => by simp at h
  | _ :: _, [], h, _ => by simp at h
  | D :: Ds, p :: l, h, hb => by
    have h0 : D = [p] := hb 0 (by simp)
    have ih := prodL_one Ds l (by simpa using h) (fun i hi => hb (i + 1) (by simpa using hi))
    rw [prodL, ih, h0]; rfl
theorem solE_one {F G : Fct} {κ : Int → Bool} {c : List Int} (h : ∀ i : Nat, i < c.length → ¬ at0 c (i : Int) = -1) (hI : ∀ a : Nat, a < F.S.s.length → okA F G c a) : solE F G κ c = [c] := by
  unfold solE
  rw [prodL_one (domL F G κ c) c (domL_len ..).symm fun i hi => by
    rw [domL_len] at hi; rw [domL_at hi]; unfold domA; rw [if_neg (h i hi)]]
  rw [List.filter_cons, if_pos (bP_t hI)]; rfl
theorem homK_nn {F G : Fct} {κ : Int → Bool} {x p : Int} (h : p ∈ homK F G κ x) : 0 ≤ p ∧ p < F.T.s.length := homTo_in p (List.mem_filter.1 h).1
theorem domL_set {F G : Fct} {κ : Int → Bool} {c : List Int} {x : Nat} (hx : x < c.length) {p : Int} (hp : 0 ≤ p) : domL F G κ (c.set x p) = (domL F G κ c).set x [p] := by
  apply List.ext_getElem?
  intro i
  rw [List.getElem?_set, domL_len]
  unfold domL
  rw [List.length_set, List.getElem?_map, List.getElem?_map]
  by_cases hi : i < c.length
  · rw [List.getElem?_range hi]
    by_cases e : x = i
    · subst e
      rw [if_pos rfl, if_pos hi]
      show some (domA F G κ (c.set x p) x) = some [p]
      unfold domA; rw [at0_set hx (by omega), if_pos rfl, if_neg (by omega)]
    · rw [if_neg e]
      show some (domA F G κ (c.set x p) i) = some (domA F G κ c i)
      have e2 : at0 (c.set x p) (i : Int) = at0 c (i : Int) := by rw [at0_set hx (by omega), if_neg (by omega)]
      unfold domA; rw [e2]
  · rw [List.getElem?_eq_none (by simpa using hi)]
    by_cases e : x = i
    · exact absurd (e ▸ hx) hi
    · rw [if_neg e]; rfl
theorem flatMap_cong {α β : Type} {f g : α → List β} : ∀ {D : List α}, (∀ p ∈ D, f p = g p) → D.flatMap f = D.flatMap g
  | [], _ => rfl
  | p :: D, h => by rw [List.flatMap_cons, List.flatMap_cons, h p (List.mem_cons_self ..), flatMap_cong fun r hr => h r (List.mem_cons_of_mem _ hr)]
theorem solE_split {F G : Fct} {κ : Int → Bool} {c : List Int} (hA : ArrS F c) {x : Nat} (hx : x < c.length) (h1 : at0 c (x : Int) = -1) (hb : ∀ i : Nat, i < x → ¬ at0 c (i : Int) = -1) : solE F G κ c = (choL F G κ c x).flatMap fun p => solE F G κ (c.set x p) := by
  have hs := prodL_split (domL F G κ c) x (by rw [domL_len]; exact hx) fun i hi => ⟨at0 c (i : Int), by rw [domL_at (by omega)]; unfold domA; rw [if_neg (hb i hi)]⟩
  have hd : (domL F G κ c).getD x [] = homK F G κ (x : Int) := by rw [domL_at hx]; unfold domA; rw [if_pos h1]
  rw [hd] at hs
  have e : solE F G κ c = (homK F G κ (x : Int)).flatMap fun p => solE F G κ (c.set x p) := by
    unfold solE
    rw [hs, List.filter_flatMap]
    refine flatMap_cong fun p hp => ?_
    rw [domL_set hx (homK_nn hp).1]
  rw [e]
  refine flat_filter _ fun p hp hq => ?_
  refine List.eq_nil_iff_forall_not_mem.2 fun l hl => ?_
  have hA2 : ArrS F (c.set x p) := ⟨by simpa using hA.s, by simpa using hA.t⟩
  have hx2 : x < (c.set x p).length := by simpa using hx
  have hf := sol_fit hA2 hx2 hl
  have hm := (mem_solE.1 hl).1.2 x hx2
  have hp0 := (homK_nn hp).1
  have e2 : at0 (c.set x p) (x : Int) = p := by rw [at0_set hx (by omega), if_pos rfl]
  unfold domA at hm; rw [e2, if_neg (by omega)] at hm
  rw [List.mem_singleton.1 hm] at hf
  have : fitA F G c x p := fun a ha ht => by have := hf a ha ht; rwa [List.set_set] at this
  rw [bP_t this] at hq; cases hq
theorem inv_next {F G : Fct} {κ : Int → Bool} {c : List Int} (hA : ArrS F c) {x : Nat} (hx : x < c.length) {p : Int} (hI : ∀ a : Nat, a < F.S.s.length → okA F G c a) (hp : p ∈ choL F G κ c x) : ∀ a : Nat, a < F.S.s.length → okA F G (c.set x p) a := fun a ha => by
  by_cases ht : touchA F (x : Int) a
  · exact bP_t' (List.mem_filter.1 hp).2 a ha ht
  · have h := hI a ha
    have hs1 := hA.s a ha; have ht1 := hA.t a ha
    have e1 : at0 (c.set x p) (at0 F.S.s (a : Int)) = at0 c (at0 F.S.s (a : Int)) := by rw [at0_set hx hs1.1, if_neg (fun e => ht (.inl e))]
    have e2 : at0 (c.set x p) (at0 F.S.t (a : Int)) = at0 c (at0 F.S.t (a : Int)) := by rw [at0_set hx ht1.1, if_neg (fun e => ht (.inr e))]
    unfold okA SqP at *
    rw [e1, e2]; exact h
end Go.Proofs.YtfnneogadciimaaDoor
set_option linter.unusedSimpArgs false
set_option linter.unusedVariables false
set_option linter.unusedSectionVars false
namespace Go.Proofs.YtfnneogadciimaaDoor
open Go.RowKit
def bef (c : Cat) (f : Int) : Int → Int := fun g => c.th g f
def beh (c : Cat) (f : Int) : Int → Int := fun g => c.th f g
noncomputable def solL (φ : Int → Int) (v : Int) (k : Nat) : List Int := filTo (fun g => φ (g : Int) = v) (fun g => (g : Int)) k
theorem sol_t {φ : Int → Int} {v : Int} {k : Nat} (h : φ (k : Int) = v) : solL φ v k ++ [(k : Int)] = solL φ v (k + 1) := filTo_t (p := fun g => φ (g : Int) = v) h
theorem sol_f {φ : Int → Int} {v : Int} {k : Nat} (h : ¬ φ (k : Int) = v) : solL φ v k = solL φ v (k + 1) := filTo_f (p := fun g => φ (g : Int) = v) h
theorem sol_len (φ : Int → Int) (v : Int) (k : Nat) : (solL φ v k).length ≤ k := filTo_len _ _ _
theorem sol_mem {φ : Int → Int} {v : Int} {k : Nat} {x : Int} : x ∈ solL φ v k ↔ ∃ j : Nat, j < k ∧ φ (j : Int) = v ∧ (j : Int) = x := filTo_mem
noncomputable def retL (c : Cat) (f : Int) : List Int := solL (beh c f) (at0 c.e (at0 c.s f)) c.s.length
noncomputable def secL (c : Cat) (f : Int) : List Int := solL (bef c f) (at0 c.e (at0 c.t f)) c.s.length
theorem mem_atK {xs : List Int} {x : Int} (h : x ∈ xs) : ∃ j : Nat, j < xs.length ∧ at0 xs (j : Int) = x := by
  obtain ⟨j, hj, rfl⟩ := List.getElem_of_mem h
  exact ⟨j, hj, by rw [at0_nat, List.getD_eq_getElem?_getD, List.getElem?_eq_getElem hj]; rfl⟩
theorem th_m1 {c : Cat} (hS : ShapeP c) {f g : Int} (f0 : 0 ≤ f) (f1 : f < c.s.length) (g0 : 0 ≤ g) (g1 : g < c.s.length) (h : c.th f g ≠ -1) : at0 c.t f = at0 c.s g :=
  Classical.byContradiction fun hn => h ((th_none hS f0 f1 g0 g1).2 hn)
theorem ret_iff {c : Cat} (hS : ShapeP c) {f g : Int} (f0 : 0 ≤ f) (f1 : f < c.s.length) (g0 : 0 ≤ g) (g1 : g < c.s.length) :
    (at0 c.s g = at0 c.t f ∧ at0 c.t g = at0 c.s f ∧ c.th f g = at0 c.e (at0 c.s f)) ↔ beh c f g = at0 c.e (at0 c.s f) := by
  refine ⟨fun h => h.2.2, fun h => ?_⟩
  have hA := arrP hS f0 f1
  have hi := hS.idn (x := at0 c.s f) hA.s0 (by have := hA.s1; have := hS.el; omega)
  have h' : c.th f g = at0 c.e (at0 c.s f) := h
  have he := th_m1 hS f0 f1 g0 g1 (by rw [h']; have := hi.1; omega)
  have ht := th_ends hS f0 f1 g0 g1 he
  rw [h'] at ht
  exact ⟨he.symm, by rw [← ht.2.2, hi.2.2.2], h'⟩
theorem sec_iff {c : Cat} (hS : ShapeP c) {f g : Int} (f0 : 0 ≤ f) (f1 : f < c.s.length) (g0 : 0 ≤ g) (g1 : g < c.s.length) :
    (at0 c.s g = at0 c.t f ∧ at0 c.t g = at0 c.s f ∧ c.th g f = at0 c.e (at0 c.t f)) ↔ bef c f g = at0 c.e (at0 c.t f) := by
  refine ⟨fun h => h.2.2, fun h => ?_⟩
  have hA := arrP hS f0 f1
  have hi := hS.idn (x := at0 c.t f) hA.t0 (by have := hA.t1; have := hS.el; omega)
  have h' : c.th g f = at0 c.e (at0 c.t f) := h
  have he := th_m1 hS g0 g1 f0 f1 (by rw [h']; have := hi.1; omega)
  have ht := th_ends hS g0 g1 f0 f1 he
  rw [h'] at ht
  exact ⟨by rw [← ht.2.1, hi.2.2.1], he, h'⟩
theorem assocI {c : Cat} (hC : IsCat c) {f g h : Int} (f0 : 0 ≤ f) (f1 : f < c.s.length) (g0 : 0 ≤ g) (g1 : g < c.s.length) (h0 : 0 ≤ h) (h1 : h < c.s.length) (e1 : at0 c.t f = at0 c.s g) (e2 : at0 c.t g = at0 c.s h) : c.th (c.th f g) h = c.th f (c.th g h) := by
  obtain ⟨a, rfl⟩ := Int.eq_ofNat_of_zero_le f0
  obtain ⟨b, rfl⟩ := Int.eq_ofNat_of_zero_le g0
  obtain ⟨d, rfl⟩ := Int.eq_ofNat_of_zero_le h0
  have := hC.assoc a b d (by omega) (by omega) (by omega)
  exact Classical.byContradiction fun hn => this ⟨e1, e2, hn⟩
theorem unitL {c : Cat} (hC : IsCat c) {f : Int} (f0 : 0 ≤ f) (f1 : f < c.s.length) : c.th (at0 c.e (at0 c.s f)) f = f ∧ c.th f (at0 c.e (at0 c.t f)) = f := by
  obtain ⟨a, rfl⟩ := Int.eq_ofNat_of_zero_le f0
  exact hC.idl a (by omega)
theorem inv_uniq {c : Cat} (hC : IsCat c) {f g h : Int} (f0 : 0 ≤ f) (f1 : f < c.s.length) (g0 : 0 ≤ g) (g1 : g < c.s.length) (h0 : 0 ≤ h) (h1 : h < c.s.length) (s1 : at0 c.s g = at0 c.t f) (t1 : at0 c.t g = at0 c.s f) (s2 : at0 c.s h = at0 c.t f) (t2 : at0 c.t h = at0 c.s f)
    (e1 : c.th g f = at0 c.e (at0 c.t f)) (e2 : c.th f h = at0 c.e (at0 c.s f)) : g = h := by
  have a := assocI hC g0 g1 f0 f1 h0 h1 t1 s2.symm
  rw [e1, e2] at a
  have u1 := (unitL hC h0 h1).1
  have u2 := (unitL hC g0 g1).2
  rw [s2] at u1; rw [t1] at u2
  rw [u1, u2] at a
  exact a.symm
theorem findGo_in {c : Cat} {f : Int} : ∀ {xs : List Int}, (∃ g ∈ xs, invAt c f g) → findGo c f xs ∈ xs ∧ invAt c f (findGo c f xs)
  | [], h => by obtain ⟨g, h, _⟩ := h; simp at h
  | g :: r, h => by
    by_cases hi : invAt c f g
    · have : findGo c f (g :: r) = g := if_pos hi
      rw [this]; exact ⟨List.mem_cons_self .., hi⟩
    · have : findGo c f (g :: r) = findGo c f r := if_neg hi
      rw [this]
      obtain ⟨x, hx, hx2⟩ := h
      have ih := findGo_in (c := c) (f := f) (xs := r) (by
        rcases List.mem_cons.1 hx with rfl | hx
        · exact absurd hx2 hi
        · exact ⟨x, hx, hx2⟩)
      exact ⟨List.mem_cons_of_mem _ ih.1, ih.2⟩
noncomputable def invN (c : Cat) (f : Int) : Int := findGo c f (homTo c (at0 c.t f) (at0 c.s f) c.s.length)
theorem invN_in {c : Cat} {f : Int} (h : hasInv c f) : 0 ≤ invN c f ∧ invN c f < c.s.length ∧ at0 c.s (invN c f) = at0 c.t f ∧ at0 c.t (invN c f) = at0 c.s f ∧ invAt c f (invN c f) := by
  have := findGo_in h
  obtain ⟨j, h1, h2, h3, h4⟩ := mem_homTo.1 this.1
  exact ⟨by show 0 ≤ findGo _ _ _; omega, by show findGo _ _ _ < _; omega, by show at0 c.s (findGo _ _ _) = _; rw [h2]; exact h3, by show at0 c.t (findGo _ _ _) = _; rw [h2]; exact h4, this.2⟩
theorem hasInv_of {c : Cat} {f g : Int} (g0 : 0 ≤ g) (g1 : g < c.s.length) (h1 : at0 c.s g = at0 c.t f) (h2 : at0 c.t g = at0 c.s f) (h : invAt c f g) : hasInv c f := by
  obtain ⟨j, rfl⟩ := Int.eq_ofNat_of_zero_le g0
  exact ⟨j, mem_homTo.2 ⟨j, by omega, rfl, h1, h2⟩, h⟩
theorem invN_eq {c : Cat} (hC : IsCat c) {f g : Int} (f0 : 0 ≤ f) (f1 : f < c.s.length) (g0 : 0 ≤ g) (g1 : g < c.s.length) (h1 : at0 c.s g = at0 c.t f) (h2 : at0 c.t g = at0 c.s f) (h : invAt c f g) : invN c f = g := by
  have hi := invN_in (hasInv_of g0 g1 h1 h2 h)
  exact inv_uniq hC f0 f1 hi.1 hi.2.1 g0 g1 hi.2.2.1 hi.2.2.2.1 h1 h2 hi.2.2.2.2.2 h.1
theorem both_inv {c : Cat} (hS : ShapeP c) {f g : Int} (f0 : 0 ≤ f) (f1 : f < c.s.length) (h1 : g ∈ retL c f) (h2 : g ∈ secL c f) : 0 ≤ g ∧ g < c.s.length ∧ at0 c.s g = at0 c.t f ∧ at0 c.t g = at0 c.s f ∧ invAt c f g := by
  obtain ⟨j, h3, h4, rfl⟩ := sol_mem.1 h1
  obtain ⟨i, h5, h6, h7⟩ := sol_mem.1 h2
  rw [h7] at h6
  have a := (ret_iff hS f0 f1 (g := (j : Int)) (by omega) (by omega)).2 h4
  have b := (sec_iff hS f0 f1 (g := (j : Int)) (by omega) (by omega)).2 h6
  exact ⟨by omega, by omega, a.1, a.2.1, a.2.2, b.2.2⟩
theorem inv_both {c : Cat} {f : Int} (h : hasInv c f) : ∃ g : Int, g ∈ retL c f ∧ g ∈ secL c f := by
  have hi := invN_in h
  obtain ⟨j, hj⟩ := Int.eq_ofNat_of_zero_le hi.1
  rw [hj] at hi
  exact ⟨j, sol_mem.2 ⟨j, by omega, hi.2.2.2.2.1, rfl⟩, sol_mem.2 ⟨j, by omega, hi.2.2.2.2.2, rfl⟩⟩
theorem invN_found {c : Cat} (hC : IsCat c) {f : Int} (f0 : 0 ≤ f) (f1 : f < c.s.length) {k : Nat} (hk : k < (retL c f).length) (h : at0 (retL c f) (k : Int) ∈ secL c f) : invN c f = at0 (retL c f) (k : Int) := by
  have hb := both_inv hC.toShapeP f0 f1 (at0_mem hk) h
  exact invN_eq hC f0 f1 hb.1 hb.2.1 hb.2.2.1 hb.2.2.2.1 hb.2.2.2.2
theorem invN_none {c : Cat} {f : Int} (h : ∀ j : Nat, j < (retL c f).length → ¬ at0 (retL c f) (j : Int) ∈ secL c f) : invN c f = -1 := by
  have hn : ¬ hasInv c f := fun hh => by
    obtain ⟨g, h1, h2⟩ := inv_both hh
    obtain ⟨j, hj, rfl⟩ := List.getElem_of_mem h1
    exact h j hj (by rw [at0_nat, List.getD_eq_getElem?_getD, List.getElem?_eq_getElem hj]; exact h2)
  have key : ∀ xs : List Int, (∀ g ∈ xs, ¬ invAt c f g) → findGo c f xs = -1 := by
    intro xs
    induction xs with
    | nil => intro _; rfl
    | cons g r ih =>
      intro h
      have : findGo c f (g :: r) = findGo c f r := if_neg (h g (List.mem_cons_self ..))
      rw [this]; exact ih fun x hx => h x (List.mem_cons_of_mem _ hx)
  exact key _ fun g hg hi => hn ⟨g, hg, hi⟩
end Go.Proofs.YtfnneogadciimaaDoor
