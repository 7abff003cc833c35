import Derived.Test.YtbiplocgenppoaaS16
import Derived.Test.YtbiplocgenppoaaS23
import Derived.Test.YtbiplocgenppoaaS18
import Derived.Test.YtbiplocgenppoaaS24
set_option linter.unusedSimpArgs false
set_option linter.unusedVariables false
set_option linter.unusedSectionVars false
namespace Go.Proofs.Ytbiplocgenppoaa
open _root_.Go.Proofs.Try
open Go.RowKit
theorem ownC_all {w : World} {S : Nat → Prop} {c : Cat} {vs vt ve vm : Value} {us : List Value} {is : List Itm} (h : Star (own1I vs c.s :: own1I vt c.t :: own1I ve c.e :: own2U vm us c.m :: is) w S) : OwnC (.agg #[.int .i64 c.ob, vs, vt, ve, vm]) c w S := by
  obtain ⟨P1, R1, a1, b1, d1, h1, P2, R2, a2, b2, d2, h2, P3, R3, a3, b3, d3, h3, P4, R4, a4, b4, d4, h4, _⟩ := h
  refine ownC_shut h1 h2 h3 ⟨us, h4⟩ (fun k h => ?_) (fun k h h' => d1 k h (a2 k h')) (fun k h h' => d1 k h (b2 k (a3 k h'))) (fun k h h' => d1 k h (b2 k (b3 k (a4 k h')))) (fun k h h' => d2 k h (a3 k h')) (fun k h h' => d2 k h (b3 k (a4 k h'))) (fun k h h' => d3 k h (a4 k h'))
  rcases h with h | h | h | h
  · exact a1 k h
  · exact b1 k (a2 k h)
  · exact b1 k (b2 k (a3 k h))
  exact b1 k (b2 k (b3 k (a4 k h)))
theorem mem_packC {w0 w : World} (L : List Itm) {c : Cat} {vs vt ve vm : Value} {us : List Value} (M : Mem w0 w (L ++ [own1I vs c.s, own1I vt c.t, own1I ve c.e, own2U vm us c.m])) : Mem w0 w (L ++ [ownCI (.agg #[.int .i64 c.ob, vs, vt, ve, vm]) c]) := by
  obtain ⟨S1, S2, k1, k2, kd, hL, hs⟩ := star_parts L M.2
  exact ⟨M.1, star_app L _ k1 k2 kd hL ⟨S2, fun _ => False, fun k h => h, fun k h => h.elim, fun k _ h => h, ownC_all hs, trivial⟩⟩
theorem mem_unpackC {w0 w : World} (L : List Itm) {c : Cat} {v : Value} (M : Mem w0 w (L ++ [ownCI v c])) : ∃ (a1 a2 a3 a4 : Option Addr) (k1 k2 k3 k4 : Nat) (uu : List Value), v = .agg #[.int .i64 c.ob, .slice a1 c.s.length k1, .slice a2 c.t.length k2, .slice a3 c.e.length k3, .slice a4 c.m.length k4] ∧
    Mem w0 w (L ++ [own1I (.slice a1 c.s.length k1) c.s, own1I (.slice a2 c.t.length k2) c.t, own1I (.slice a3 c.e.length k3) c.e, own2U (.slice a4 c.m.length k4) uu c.m]) := by
  obtain ⟨S1, S2, k1, k2, kd, hL, T, T', t1, _, _, hs, _⟩ := star_parts L M.2
  obtain ⟨vs, vt, ve, vm, P1, P2, P3, P4, hv, h1, h2, h3, ⟨us, h4⟩, hq, d12, d13, d14, d23, d24, d34⟩ := ownC_open (hs : OwnC v c w T)
  obtain ⟨a1, q1, rfl⟩ := rd_form (Own1.rd h1)
  obtain ⟨a2, q2, rfl⟩ := rd_form (Own1.rd h2)
  obtain ⟨a3, q3, rfl⟩ := rd_form (Own1.rd h3)
  obtain ⟨a4, q4, rfl⟩ := rd2_form (Own2.rd (S := P4) ⟨us, h4⟩)
  refine ⟨a1, a2, a3, a4, q1, q2, q3, q4, us, hv, M.1, star_app L _ k1 k2 kd hL ?_⟩
  have hq' : ∀ k, P1 k ∨ P2 k ∨ P3 k ∨ P4 k → S2 k := fun k h => t1 k (hq k h).1
  refine ⟨P1, fun k => P2 k ∨ P3 k ∨ P4 k, fun k h => hq' k (.inl h), fun k h => hq' k (.inr h), ?_, h1, P2, fun k => P3 k ∨ P4 k, fun k h => .inl h, fun k h => .inr h, ?_, h2, P3, P4, fun k h => .inl h, fun k h => .inr h, d34, h3, P4, fun _ => False, fun k h => h, fun k h => h.elim, fun k _ h => h, h4, trivial⟩
  · rintro k hk (h | h | h)
    · exact d12 k hk h
    · exact d13 k hk h
    exact d14 k hk h
  rintro k hk (h | h)
  · exact d23 k hk h
  exact d24 k hk h
def RetMC (w0 : World) (i : Itm) (F : List Itm) (P : Cat → Prop) (e : Ending) (w' : World) : Prop := ∃ (c : Cat) (v : Value), P c ∧ e = .returned v ∧ Mem w0 w' [i, tailI F, ownCI v c]
def RetCE (W : World) (P : Cat → Prop) (e : Ending) (w' : World) : Prop := ∃ c, P c ∧ RetC W c e w'
section
variable {w0 : World} {is : List Itm} {Q : Exit → Act → World → Prop} {o : Oper} {N : Frm} {e : Env} {d : Nat} {K : Act → World → Prop} {f : FuncId} {fn : Func} {ags : Array Operand} {ts : Array TypeId} {vs : List Value}
theorem go_callMC {i : Itm} {F : List Itm} {P : Cat → Prop} (hd : o.dst = some d) (hN : Nat.blt d N = true) (hop : o.op = .call { callee := .value (.func f), args := ags, argTypes := ts }) (hfn : Try.prog.funcs[f]? = some fn) (hb : fn.body.isNone = false) (hn : (fn.name == "runtime.NumGoroutine") = false)
    (hargs : evoL e ags.toList = some vs) (his : is = i :: F) (hc : ∀ w, Mem w0 w [i, tailI F] → Calls Try.prog f vs.toArray w (RetMC w0 i F P))
    (hk : ∀ (c : Cat) (a1 a2 a3 a4 : Option Addr) (k1 k2 k3 k4 : Nat) (uu : List Value), P c → GK w0 (is ++ [own1I (.slice a1 c.s.length k1) c.s, own1I (.slice a2 c.t.length k2) c.t, own1I (.slice a3 c.e.length k3) c.e, own2U (.slice a4 c.m.length k4) uu c.m]) N K ((d, .agg #[.int .i64 c.ob, .slice a1 c.s.length k1, .slice a2 c.t.length k2, .slice a3 c.e.length k3, .slice a4 c.m.length k4]) :: e)) : GO w0 is N o e Q K := by
  subst his
  intro w a M G
  refine go_call hd hN G hop hfn hb hn hargs (hc w (mem_tail_in (L := [i]) M)) fun e' w' hR => ?_
  obtain ⟨c, v, hP, rfl, M'⟩ := hR
  have M2 : Mem w0 w' ((i :: F) ++ [ownCI v c]) := mem_mid (J := [ownCI v c]) M'
  obtain ⟨a1, a2, a3, a4, k1, k2, k3, k4, uu, rfl, M3⟩ := mem_unpackC (i :: F) M2
  exact ⟨_, rfl, fun a G => hk c a1 a2 a3 a4 k1 k2 k3 k4 uu hP w' a M3 G⟩
theorem go_callCE {P : Cat → Prop} (hd : o.dst = some d) (hN : Nat.blt d N = true) (hop : o.op = .call { callee := .value (.func f), args := ags, argTypes := ts }) (hfn : Try.prog.funcs[f]? = some fn) (hb : fn.body.isNone = false) (hn : (fn.name == "runtime.NumGoroutine") = false)
    (hargs : evoL e ags.toList = some vs) (hc : ∀ w, Mem w0 w is → Calls Try.prog f vs.toArray w (RetCE w P))
    (hk : ∀ (c : Cat) (a1 a2 a3 a4 : Option Addr) (k1 k2 k3 k4 : Nat) (uu : List Value), P c → GK w0 (is ++ [own1I (.slice a1 c.s.length k1) c.s, own1I (.slice a2 c.t.length k2) c.t, own1I (.slice a3 c.e.length k3) c.e, own2U (.slice a4 c.m.length k4) uu c.m]) N K ((d, .agg #[.int .i64 c.ob, .slice a1 c.s.length k1, .slice a2 c.t.length k2, .slice a3 c.e.length k3, .slice a4 c.m.length k4]) :: e)) : GO w0 is N o e Q K := by
  intro w a M F
  refine go_call hd hN F hop hfn hb hn hargs (hc w M) fun e' w' hR => ?_
  obtain ⟨c, hP, v, rfl, hs, hbl⟩ := hR
  obtain ⟨a1, a2, a3, a4, k1, k2, k3, k4, uu, rfl, hst⟩ := star_ownC hs
  exact ⟨_, rfl, fun a F => hk c a1 a2 a3 a4 k1 k2 k3 k4 uu hP w' a (mem_news M hbl hst) F⟩
end
def sqB (r : List (List Int)) (b : Int) : Bool := r.all fun x => decide (x.length = r.length) && x.all fun y => decide (0 ≤ y ∧ y < b)
theorem sq_of {r : List (List Int)} {b : Int} (h : sqB r b = true) : SquareP r b := fun i hi => by
  have hm : row2 r (i : Int) ∈ r := by unfold row2; rw [Int.toNat_natCast, List.getD_eq_getElem?_getD, List.getElem?_eq_getElem hi]; exact List.getElem_mem hi
  have := (List.all_eq_true.1 h) _ hm
  simp only [Bool.and_eq_true, decide_eq_true_eq, List.all_eq_true] at this
  exact ⟨this.1, fun x hx => this.2 x hx⟩
def preB (r : List (List Int)) : Bool := (List.range r.length).all fun i => decide (at0 (row2 r (i : Int)) (i : Int) = 1) && (List.range r.length).all fun j => (List.range r.length).all fun k => decide (at0 (row2 r (i : Int)) (j : Int) = 1 → at0 (row2 r (j : Int)) (k : Int) = 1 → at0 (row2 r (i : Int)) (k : Int) = 1)
theorem pre_of {r : List (List Int)} (h : preB r = true) : PreP r := by
  unfold preB at h
  simp only [Bool.and_eq_true, decide_eq_true_eq, List.all_eq_true, List.mem_range] at h
  exact ⟨fun i hi => (h i hi).1, fun i j k hi hj hk => (h i hi).2 j hj k hk⟩
theorem peL_sq (r : List (List Int)) (i k : Nat) : (peL r i k).length ≤ i * r.length + k := by
  unfold peL
  have h2 := peR_len r i k
  have h1 : ∀ m : Nat, ((List.range m).flatMap fun a => peR r a r.length).length ≤ m * r.length := by
    intro m
    induction m with
    | zero => simp
    | succ m ih =>
      have h3 := peR_len r m r.length
      simp only [List.range_succ, List.flatMap_append, List.length_append, List.flatMap_cons, List.flatMap_nil, List.append_nil, Nat.succ_mul]
      omega
  have := h1 i
  simp only [List.length_append]
  omega
def FamP (c : Cat) : Prop := ShapeP c ∧ c.ob ≤ 4 ∧ c.s.length ≤ 18
theorem fam_pos {r : List (List Int)} (hP : PreP r) (hn : r.length ≤ 4) : FamP (posetC r) := by
  have hl : (psF r).length ≤ 16 := by
    have h1 := peL_sq r r.length 0
    have h2 : r.length * r.length ≤ 4 * 4 := Nat.mul_le_mul hn hn
    show (fsL r r.length 0).length ≤ 16
    rw [fsL_len]; omega
  exact ⟨pos_shape hP (by omega) (by omega), by show (r.length : Int) ≤ 4; omega, by show (psF r).length ≤ 18; omega⟩
theorem fam_mon {r : List (List Int)} (h0 : 0 < r.length) (hq : SquareP r r.length) (h4 : r.length ≤ 4) : FamP (monC r) :=
  ⟨mon_shape h0 hq (by omega), by show (1 : Int) ≤ 4; decide, by show (List.replicate r.length (0 : Int)).length ≤ 18; simp; omega⟩
theorem jN_eq {c d : Cat} (hS : ShapeP c) (gS : ShapeP d) : jN c d = c.s.length + d.s.length + d.ob.toNat * c.ob.toNat := by
  have := (sumP hS gS).sl
  unfold jN jW; rw [this]
theorem fam_join {r q : List (List Int)} (h0 : 0 < r.length) (hq : SquareP r r.length) (h4 : r.length ≤ 4) (hP : PreP q) (h1 : q.length = 1) : FamP (joinM (monC r) (posetC q)) := by
  have hA := fam_mon h0 hq h4
  have hB := fam_pos hP (by omega)
  have hj := jN_eq hA.1 hB.1
  have hm : (monC r).s.length = r.length := by show (List.replicate r.length (0 : Int)).length = _; simp
  have hp : (posetC q).s.length ≤ 1 := by
    have h := peL_sq q q.length 0
    rw [h1] at h
    show (fsL q q.length 0).length ≤ 1
    rw [fsL_len, h1]; omega
  have hob : (posetC q).ob = 1 := by show (q.length : Int) = 1; omega
  have hob2 : (monC r).ob = 1 := rfl
  have hN : jN (monC r) (posetC q) ≤ 6 := by rw [hj, hm, hob, hob2]; show r.length + _ + 1 * 1 ≤ 6; omega
  refine ⟨join_shape hA.1 hB.1 (by rw [hob, hob2]; decide) (by omega), ?_, ?_⟩
  · show (monC r).ob + (posetC q).ob ≤ 4; rw [hob, hob2]; decide
  show (jS _ _ _).length ≤ 18
  rw [jS_len]; have : jN (monC r) (posetC q) = (sumM (monC r) (posetC q)).s.length + jW (monC r) (posetC q) := rfl
  omega
theorem fam_opp {c : Cat} (h : FamP c) : FamP (oppM c) := ⟨opp_shape h.1, h.2.1, by show c.t.length ≤ 18; rw [h.1.tl]; exact h.2.2⟩
theorem fam_paths {n : Nat} {fr to : List Int} (h : Small n fr to) {es : List (Ent Edg)} (hP : PathsP n fr to es) : FamP (pathsC n (payA es) es.length) := by
  have := pathsE_shape h hP
  exact ⟨this.1, by omega, this.2.2⟩
def splitC : Cat := ⟨2, [0, 1, 0, 0, 1], [0, 1, 0, 1, 0], [0, 1], [[0, -1, 2, 3, -1], [-1, 1, -1, -1, 4], [2, -1, 2, 3, -1], [-1, 3, -1, -1, 2], [4, -1, 4, 1, -1]]⟩
theorem split_fam : FamP splitC := by
  refine ⟨?_, by decide, by decide⟩
  have hco : ∀ f, f < 5 → ∀ g, g < 5 → ((at0 splitC.t ((f : Nat) : Int) = at0 splitC.s ((g : Nat) : Int) → (0 ≤ splitC.th f g ∧ splitC.th f g < 5) ∧ at0 splitC.s (splitC.th f g) = at0 splitC.s f ∧ at0 splitC.t (splitC.th f g) = at0 splitC.t g) ∧ (at0 splitC.t f ≠ at0 splitC.s g → splitC.th f g = -1)) := by decide
  have hid : ∀ x, x < 2 → ((0 ≤ at0 splitC.e ((x : Nat) : Int) ∧ at0 splitC.e x < 5) ∧ at0 splitC.s (at0 splitC.e x) = x ∧ at0 splitC.t (at0 splitC.e x) = x) := by decide
  have hrl : ∀ j, j < 5 → (splitC.m.getD j []).length = 5 := by decide
  exact { ob0 := by decide, ob8 := by decide, n40 := by decide, el := rfl, tl := rfl, ml := rfl, rl := fun j hj => hrl j hj, sa := by unfold AllP; decide, ta := by unfold AllP; decide, id := fun x hx => hid x hx, co := fun f g hf hg => hco f hf g hg }
end Go.Proofs.Ytbiplocgenppoaa
