
/- Calls of function values; a region in which two operations may come first; calls that change two things of the caller's; the kinds of labels. -/
import Derived.Test.YtgkfampgofjkfaaEnt
set_option linter.unusedSimpArgs false
set_option linter.unusedVariables false
set_option linter.unusedSectionVars false
namespace Go.Proofs.Ytgkfampgofjkfaa
open Go.RowKit
def RetV (W : World) (v : Value) (e : Ending) (w' : World) : Prop := e = .returned v ∧ Below W.heap.size W w'
/-- A function with a body. -/
def Opn (f : FuncId) : Prop := ∃ fn, Try.prog.funcs[f]? = some fn ∧ fn.body.isNone = false ∧ (fn.name == "runtime.NumGoroutine") = false
section
variable {w0 : World} {is is0 : List Itm} {ops : Array Oper} {Q : Exit → Act → World → Prop} {o : Oper} {rest : List Oper} {N : Frm} {e : Env} {v : Value} {d : Nat} {K : Act → World → Prop}
variable {f : FuncId} {fn : Func} {ags : Array Operand} {ts : Array TypeId} {vs caps : List Value}
theorem run_enterF {x : Operand} (hop : o.op = .call { callee := .value x, args := ags, argTypes := ts }) (hx : evo e x = some (.func (.func f) #[] caps.toArray)) (ho : Opn f) (hargs : evoL e ags.toList = some vs) {w : World} {a : Act} (F : Fit N e a) :
    (execOp a.eval o).run Try.prog w = .ok (.enter f (vs ++ caps).toArray) w := by
  obtain ⟨fn, hfn, hb, hn⟩ := ho
  have hb' : ¬ fn.body = none := fun h => by rw [h] at hb; simp at hb
  have hn' : ¬ fn.name = "runtime.NumGoroutine" := by simpa using hn
  have ha : ags.map a.eval = vs.toArray := by
    have := fit_evals F hargs
    rw [← this]; apply Array.toList_inj.1; simp
  have hx' := fit_eval F hx
  simp [execOp, hop, resolve, hx', Deferred.ofValue, invoke, callFunc, hfn, hn', hb', ha]
theorem qt_callF {x : Operand} (hop : o.op = .call { callee := .value x, args := ags, argTypes := ts }) (hx : evo e x = some (.func (.func f) #[] caps.toArray)) (ho : Opn f) (hargs : evoL e ags.toList = some vs)
    (hc : ∀ w, Mem w0 w is → Calls Try.prog f (vs ++ caps).toArray w (RetV w v)) : QT w0 is N o e v := by
  intro w ac M F
  unfold Oper.quietAt
  rw [run_enterF hop hx ho hargs F]
  exact ⟨rfl, (hc w M).mono fun e w' h => ⟨h.1, mem_keep M h.2⟩⟩
theorem ga_two {fuel : Nat} {listed : Array Bool} {oi oj : Oper} (i j : Nat) (hr : Region.ready .any ops listed = [i, j]) (hi : ops[i]? = some oi) (hj : ops[j]? = some oj) (wi : Want ops e oi true) (wj : Want ops e oj true)
    (h1 : ∀ K : Act → World → Prop, (∀ is e, (∀ w, Mem w0 w is → Mem w0 w is0) → GA w0 is0 is N ops Q fuel (listed.setIfInBounds i true) e → GK w0 is N K e) → GO w0 is N oi e Q K)
    (h2 : ∀ K : Act → World → Prop, (∀ is e, (∀ w, Mem w0 w is → Mem w0 w is0) → GA w0 is0 is N ops Q fuel (listed.setIfInBounds j true) e → GK w0 is N K e) → GO w0 is N oj e Q K) : GA w0 is0 is N ops Q (fuel + 1) listed e := by
  intro w a h0 M F
  refine wpAnyH_ready hr (by simp) (AllReadyH.cons hi (fun K' hK => ?_) (AllReadyH.cons hj (fun K' hK => ?_) AllReadyH.nil))
  · rw [if_pos (want_eq wi F)]
    exact h1 K' (fun is' e' hS hg w' a' M' F' => hK.out a' w' (hS w' M') fun h0' => hg w' a' h0' M' F') w a M F
  · rw [if_pos (want_eq wj F)]
    exact h2 K' (fun is' e' hS hg w' a' M' F' => hK.out a' w' (hS w' M') fun h0' => hg w' a' h0' M' F') w a M F
theorem ga_three {fuel : Nat} {listed : Array Bool} {oa ob oc : Oper} (ia ib ic : Nat) (hr : Region.ready .any ops listed = [ia, ib, ic]) (ha : ops[ia]? = some oa) (wa : Want ops e oa true) (hb : ops[ib]? = some ob) (wb : Want ops e ob true) (hc : ops[ic]? = some oc) (wc : Want ops e oc true) 
    (ka : ∀ K : Act → World → Prop, (∀ is e, (∀ w, Mem w0 w is → Mem w0 w is0) → GA w0 is0 is N ops Q fuel (listed.setIfInBounds ia true) e → GK w0 is N K e) → GO w0 is N oa e Q K)
    (kb : ∀ K : Act → World → Prop, (∀ is e, (∀ w, Mem w0 w is → Mem w0 w is0) → GA w0 is0 is N ops Q fuel (listed.setIfInBounds ib true) e → GK w0 is N K e) → GO w0 is N ob e Q K)
    (kc : ∀ K : Act → World → Prop, (∀ is e, (∀ w, Mem w0 w is → Mem w0 w is0) → GA w0 is0 is N ops Q fuel (listed.setIfInBounds ic true) e → GK w0 is N K e) → GO w0 is N oc e Q K) : GA w0 is0 is N ops Q (fuel + 1) listed e := by
  intro w a h0 M F
  refine wpAnyH_ready hr (by simp) (AllReadyH.cons ha (fun K' hK => ?_) (AllReadyH.cons hb (fun K' hK => ?_) (AllReadyH.cons hc (fun K' hK => ?_) AllReadyH.nil)))
  · rw [if_pos (want_eq wa F)]
    exact ka K' (fun is' e' hS hg w' a' M' F' => hK.out a' w' (hS w' M') fun h0' => hg w' a' h0' M' F') w a M F
  · rw [if_pos (want_eq wb F)]
    exact kb K' (fun is' e' hS hg w' a' M' F' => hK.out a' w' (hS w' M') fun h0' => hg w' a' h0' M' F') w a M F
  · rw [if_pos (want_eq wc F)]
    exact kc K' (fun is' e' hS hg w' a' M' F' => hK.out a' w' (hS w' M') fun h0' => hg w' a' h0' M' F') w a M F
theorem ga_four {fuel : Nat} {listed : Array Bool} {oa ob oc od : Oper} (ia ib ic id : Nat) (hr : Region.ready .any ops listed = [ia, ib, ic, id]) (ha : ops[ia]? = some oa) (wa : Want ops e oa true) (hb : ops[ib]? = some ob) (wb : Want ops e ob true) (hc : ops[ic]? = some oc) (wc : Want ops e oc true) (hd : ops[id]? = some od) (wd : Want ops e od true) 
    (ka : ∀ K : Act → World → Prop, (∀ is e, (∀ w, Mem w0 w is → Mem w0 w is0) → GA w0 is0 is N ops Q fuel (listed.setIfInBounds ia true) e → GK w0 is N K e) → GO w0 is N oa e Q K)
    (kb : ∀ K : Act → World → Prop, (∀ is e, (∀ w, Mem w0 w is → Mem w0 w is0) → GA w0 is0 is N ops Q fuel (listed.setIfInBounds ib true) e → GK w0 is N K e) → GO w0 is N ob e Q K)
    (kc : ∀ K : Act → World → Prop, (∀ is e, (∀ w, Mem w0 w is → Mem w0 w is0) → GA w0 is0 is N ops Q fuel (listed.setIfInBounds ic true) e → GK w0 is N K e) → GO w0 is N oc e Q K)
    (kd : ∀ K : Act → World → Prop, (∀ is e, (∀ w, Mem w0 w is → Mem w0 w is0) → GA w0 is0 is N ops Q fuel (listed.setIfInBounds id true) e → GK w0 is N K e) → GO w0 is N od e Q K) : GA w0 is0 is N ops Q (fuel + 1) listed e := by
  intro w a h0 M F
  refine wpAnyH_ready hr (by simp) (AllReadyH.cons ha (fun K' hK => ?_) (AllReadyH.cons hb (fun K' hK => ?_) (AllReadyH.cons hc (fun K' hK => ?_) (AllReadyH.cons hd (fun K' hK => ?_) AllReadyH.nil))))
  · rw [if_pos (want_eq wa F)]
    exact ka K' (fun is' e' hS hg w' a' M' F' => hK.out a' w' (hS w' M') fun h0' => hg w' a' h0' M' F') w a M F
  · rw [if_pos (want_eq wb F)]
    exact kb K' (fun is' e' hS hg w' a' M' F' => hK.out a' w' (hS w' M') fun h0' => hg w' a' h0' M' F') w a M F
  · rw [if_pos (want_eq wc F)]
    exact kc K' (fun is' e' hS hg w' a' M' F' => hK.out a' w' (hS w' M') fun h0' => hg w' a' h0' M' F') w a M F
  · rw [if_pos (want_eq wd F)]
    exact kd K' (fun is' e' hS hg w' a' M' F' => hK.out a' w' (hS w' M') fun h0' => hg w' a' h0' M' F') w a M F
/-- A cut: what follows is shown once, whatever order came. -/
theorem gc_cut {σ : Type} {c : Code} (C : Env) (E : σ → Env) (ch : σ → List (Nat × Itm)) (nw : σ → List Itm) (hC : Sub C e) (h1 : ∀ s, GK w0 (updL is (ch s) ++ nw s) N (Q .normal) (E s ++ C)) (h2 : (∀ s, GK w0 (updL is (ch s) ++ nw s) N (Q .normal) (E s ++ C)) → GC w0 is N c Q e) : GC w0 is N c Q e := h2 h1
def pickL : List Itm → List Nat → List Itm
  | _, [] => []
  | is, k :: ks => match is[k]? with
    | some i => i :: pickL (is.eraseIdx k) ks
    | none => pickL is ks
theorem star_pickL : ∀ (ks : List Nat) (is : List Itm) {w : World} {S : Nat → Prop}, Star is w S → Star (pickL is ks) w S
  | [], _, _, _, _ => trivial
  | k :: ks, is, w, S, h => by
    unfold pickL
    cases hi : is[k]? with
    | none => exact star_pickL ks is h
    | some i =>
      obtain ⟨S1, S2, k1, k2, hd, h1, h2⟩ := star_pick is hi h
      exact ⟨S1, S2, k1, k2, hd, h1, star_pickL ks _ h2⟩
theorem gk_pickL (ks : List Nat) (h : GK w0 (pickL is ks) N K e) : GK w0 is N K e := fun w a M F => h w a ⟨M.1, star_pickL ks is M.2⟩ F
theorem qt_nilP {x : Operand} {a : Addr} (hop : o.op = .nilCheck x) (hx : evo e x = some (.pointer (some a))) : QV w0 is o e (.pointer (some a)) := fun w ac M F => by
  have hx := F _ _ hx
  simp [execOp, hop, hx]
theorem qt_makeF {f : Fn} {cs : Array Operand} {us : List Value} (hop : o.op = .makeFunc f #[] cs) (hc : evoL e cs.toList = some us) : QV w0 is o e (.func f #[] us.toArray) := fun w ρ M F => by
  have : cs.map ρ = us.toArray := by
    have h : ∀ {xs : List Operand} {vs : List Value}, evoL e xs = some vs → xs.map ρ = vs := by
      intro xs
      induction xs with
      | nil => intro vs hv; simpa [evoL] using hv
      | cons x xs ih =>
        intro vs hv
        unfold evoL at hv
        cases h1 : evo e x with
        | none => rw [h1] at hv; simp at hv
        | some v =>
          cases h2 : evoL e xs with
          | none => rw [h1, h2] at hv; simp at hv
          | some us =>
            rw [h1, h2] at hv
            simp only [Option.some.injEq] at hv
            rw [← hv, List.map_cons, F x v h1, ih h2]
    have := h hc
    rw [← this]; apply Array.toList_inj.1; simp
  simp [execOp, hop, Instr.makeFunc, this]
theorem mem_nilU {w : World} (M : Mem w0 w is) : Mem w0 w (is ++ [own2U (.slice none 0 0) [] []]) :=
  mem_new M (Below.refl _ _) ⟨rfl, by simp, World.ownsRow_nil w 0 _ 1, fun i hi => by simp at hi, fun i j _ hj => by simp at hj, fun q hq => by simp [Value.ownBlock] at hq⟩
theorem gc_nilU {c : Code} (hk : GC w0 (is ++ [own2U (.slice none 0 0) [] []]) N c Q e) : GC w0 is N c Q e := fun w a M F => hk w a (mem_nilU M) F
theorem g_nilU (hk : G w0 (is ++ [own2U (.slice none 0 0) [] []]) N ops Q rest e) : G w0 is N ops Q rest e := fun w a M F => hk w a (mem_nilU M) F
theorem gk_nilU (hk : GK w0 (is ++ [own2U (.slice none 0 0) [] []]) N K e) : GK w0 is N K e := fun w a M F => hk w a (mem_nilU M) F
def RetN {α : Type} (L : Lab α) (W : World) (es : List (Ent α)) (e : Ending) (w' : World) : Prop := ∃ B, e = .returned (.map (some B)) ∧ NumM L B es w' (fun k => W.heap.size ≤ k) ∧ Below W.heap.size W w'
theorem go_callN {α : Type} {L : Lab α} {es : List (Ent α)} (hd : o.dst = some d) (hN : Nat.blt d N = true) (hop : o.op = .call { callee := .value (.func f), args := ags, argTypes := ts }) (hfn : Try.prog.funcs[f]? = some fn) (hb : fn.body.isNone = false) (hn : (fn.name == "runtime.NumGoroutine") = false)
    (hargs : evoL e ags.toList = some vs) (hc : ∀ w, Mem w0 w is → Calls Try.prog f vs.toArray w (RetN L w es)) (hk : ∀ B, GK w0 (is ++ [numI L B es]) N K ((d, .map (some B)) :: e)) : GO w0 is N o e Q K := by
  intro w a M F
  refine go_call hd hN F hop hfn hb hn hargs (hc w M) fun e' w' hR => ?_
  obtain ⟨B, rfl, hs, hbl⟩ := hR
  exact ⟨_, rfl, fun a F => hk B w' a (mem_new M hbl hs) F⟩
theorem ret_0 {fn : Func} {R : Ending → World → Prop} (h : fn.results = #[]) (hR : ∀ w, Mem w0 w is → R (.returned (.tuple #[])) w) (hds : N.ds = [] := by rfl) : GK w0 is N (bodyPost Try.prog fn R .ret) e :=
  fun w ac M F => bodyPost_ret (v := .tuple #[]) (by simp [results, h]) (F.nil hds) (hR w M)
theorem ret_0n {fn : Func} {R : Ending → World → Prop} (h : fn.results = #[]) (hR : ∀ w, Mem w0 w is → R (.returned (.tuple #[])) w) (hds : N.ds = [] := by rfl) : GK w0 is N (bodyPost Try.prog fn R .normal) e :=
  fun w ac M F => bodyPost_end (v := .tuple #[]) (by simp [results, h]) (F.nil hds) (hR w M)
theorem gc_enterM {N : Nat} {c : Code} {w : World} {l : List Value} (M : Mem w0 w is) (hN : l.length = N) (he : ∀ t v, look e t = some v → l[t]? = some v) (h : GC w0 is (Frm.of N) c Q e) : c.wp Try.prog Q ⟨l.toArray, []⟩ w := wp_out (h w _ M (fit_enter hN he) rdy_of)
/-- Many things as one. -/
def packI (F : List Itm) : Itm := ⟨fun w S => Star F w S, ⟨fun hs ha h => star_keep F hs ha h⟩⟩
theorem star_pack {i j : Itm} {F : List Itm} {w : World} {S : Nat → Prop} (h : Star (i :: j :: F) w S) : Star [i, j, packI F] w S := by
  obtain ⟨S1, S2, k1, k2, hd, h1, T1, T2, t1, t2, td, a1, a2⟩ := h
  exact ⟨S1, S2, k1, k2, hd, h1, T1, T2, t1, t2, td, a1, T2, fun _ => False, fun k h => h, fun k h => h.elim, fun k _ h => h, a2, trivial⟩
theorem star_unpack {i j : Itm} {F : List Itm} {w : World} {S : Nat → Prop} (h : Star [i, j, packI F] w S) : Star (i :: j :: F) w S := by
  obtain ⟨S1, S2, k1, k2, hd, h1, T1, T2, t1, t2, td, a1, U1, U2, u1, u2, ud, b1, _⟩ := h
  exact ⟨S1, S2, k1, k2, hd, h1, T1, T2, t1, t2, td, a1, star_keep F (fun k _ hk => u1 k hk) agree_refl b1⟩
theorem mem_two_out {w : World} {i j : Itm} {n m' : Nat} (M : Mem w0 w is) (hi : is[n]? = some i) (hj : (is.eraseIdx n)[m']? = some j) : Mem w0 w [i, j, packI ((is.eraseIdx n).eraseIdx m')] := by
  refine ⟨M.1, star_pack ?_⟩
  obtain ⟨S1, R, a1, a2, a3, a4, a5⟩ := star_pick is hi M.2
  exact ⟨S1, R, a1, a2, a3, a4, star_pick _ hj a5⟩
theorem mem_two_in {w : World} {i' j' : Itm} {n m m' : Nat} (hn : n < is.length) (hm : m' < (is.eraseIdx n).length) (hE : (is.set m j').eraseIdx n = (is.eraseIdx n).set m' j') (M : Mem w0 w [i', j', packI ((is.eraseIdx n).eraseIdx m')]) : Mem w0 w ((is.set m j').set n i') := by
  refine ⟨M.1, star_unpick _ (by simpa using hn) ?_⟩
  rw [hE]
  obtain ⟨S1, R, a1, a2, a3, a4, a5⟩ := star_unpack M.2
  exact ⟨S1, R, a1, a2, a3, a4, star_unpick _ hm a5⟩
/-- A call that changes two things. -/
theorem go_two {σ : Type} {i j : Itm} {i' j' : σ → Itm} {n m m' : Nat} {r : Value} (hd : o.dst = some d) (hN : Nat.blt d N = true) (hop : o.op = .call { callee := .value (.func f), args := ags, argTypes := ts }) (hfn : Try.prog.funcs[f]? = some fn) (hb : fn.body.isNone = false) (hnm : (fn.name == "runtime.NumGoroutine") = false)
    (hargs : evoL e ags.toList = some vs) (hi : is[n]? = some i) (hj : (is.eraseIdx n)[m']? = some j) (hE : ∀ z, (is.set m z).eraseIdx n = (is.eraseIdx n).set m' z)
    (hc : ∀ (R : Itm) w, Mem w0 w [i, j, R] → Calls Try.prog f vs.toArray w (fun e w' => ∃ s, e = .returned r ∧ Mem w0 w' [i' s, j' s, R]))
    (hk : ∀ s, GK w0 ((is.set m (j' s)).set n (i' s)) N K ((d, r) :: e)) : GO w0 is N o e Q K := by
  intro w a M F
  have hn : n < is.length := (List.getElem?_eq_some_iff.1 hi).1
  have hm : m' < (is.eraseIdx n).length := (List.getElem?_eq_some_iff.1 hj).1
  refine go_call hd hN F hop hfn hb hnm hargs (hc _ w (mem_two_out M hi hj)) fun e' w' hR => ?_
  obtain ⟨s, rfl, M'⟩ := hR
  exact ⟨r, rfl, fun a F => hk s w' a (mem_two_in hn hm (hE _) M') F⟩
end
theorem btp0_Category {a : Int} : Try.prog.built 27 [(0, .int .i64 a)] = some #[.int .i64 a, .slice none 0 0, .slice none 0 0, .slice none 0 0, .slice none 0 0] := by kernel_rfl
theorem run_checkEnds (n : Nat) (a b : Int) (em : Bool) (w : World) : (Instr.checkKey em (n + 1 + 1) 84 (.agg #[.int .i64 a, .int .i64 b])).run Try.prog w = .ok () w := by
  have h64 : ∀ x : Int, (Instr.checkKey em (n + 1) 2 (.int .i64 x)).run Try.prog w = .ok () w := fun x => MapKept.run_checkKey Try.underlying2 (by simp [MapKept.IsKey]) em n
  obtain ⟨i, hi, hz, hs, hb⟩ := info_parts info64
  unfold Instr.checkKey
  simp [Sem.run_bind, run_underlying Try.underlying84, part, sizeOf, typeInfo, hi, hs, h64, Result.andThen]
theorem infoEnds : (Try.prog.info? 84).map (fun i => (i.zero, i.size, i.bytes)) = some (some (.agg #[.int .i64 0, .int .i64 0]), 2, 16) := by kernel_rfl
theorem infoInt : (Try.prog.info? 3).map (fun i => (i.zero, i.size, i.bytes)) = some (some (.int .i64 0), 1, 8) := by kernel_rfl
theorem info_pair : (Try.prog.info? 65).map (fun i => (i.zero, i.size, i.bytes)) = some (some (.agg #[.int .i64 0, .int .i64 0]), 2, 16) := by kernel_rfl
theorem run_check_pair (n : Nat) (a b : Int) (em : Bool) (w : World) : (Instr.checkKey em (n + 1 + 1) 65 (.agg #[.int .i64 a, .int .i64 b])).run Try.prog w = .ok () w := by
  have h64 : ∀ x : Int, (Instr.checkKey em (n + 1) 2 (.int .i64 x)).run Try.prog w = .ok () w := fun x => MapKept.run_checkKey Try.underlying2 (by simp [MapKept.IsKey]) em n
  have h63 : ∀ x : Int, (Instr.checkKey em (n + 1) 3 (.int .i64 x)).run Try.prog w = .ok () w := fun x => MapKept.run_checkKey Try.underlying3 (by simp [MapKept.IsKey]) em n
  obtain ⟨i, hi, hz, hs, hb⟩ := info_parts info64
  obtain ⟨i2, hi2, hz2, hs2, hb2⟩ := info_parts infoInt
  unfold Instr.checkKey
  simp [Sem.run_bind, run_underlying Try.underlying65, part, sizeOf, typeInfo, hi, hs, hi2, hs2, h64, h63, Result.andThen]
section
variable {w0 : World} {is : List Itm} {o : Oper} {e : Env}
/-- A struct that is a part of the struct in a block. -/
theorem qt_loadP {x : Operand} {t tb : TypeId} {n B j z : Nat} {cs : List Value} {td : TypeDesc} (hop : o.op = .load t x) (hx : evo e x = some (.pointer (some ⟨B, j, none⟩))) (ht : Try.prog.underlying t = some td) (hd : td.isRow = true)
    (hs : (Try.prog.info? t).map (·.size) = some z) (hi : is[n]? = some (bxI B tb cs)) (hl : j + z ≤ cs.length) : QV w0 is o e (.agg ((cs.drop j).take z).toArray) :=
  fun w ac M F => by
    have hx := F _ _ hx
    have hb := mem_bx M hi
    have hc : w.rangeAt B j ((cs.drop j).take z) := fun i u hu => by
      refine bx_cell hb (j + i) ?_
      rw [List.getElem?_take] at hu
      split at hu
      · rw [List.getElem?_drop] at hu; exact hu
      · cases hu
    have hlen : ((cs.drop j).take z).length = z := by simp; omega
    simp only [execOp, hop, hx, Sem.run_bind, run_loadAt_mid w B j t _ td hc ht hd (by rw [hs, hlen]), Result.andThen_ok]
    rfl
end
end Go.Proofs.Ytgkfampgofjkfaa
