
/- Lists of function values of a call's own, and what is true of the values in them. -/
import Derived.Test.YtloaikmiofdhnabFv
import Derived.Test.YtloaikmiofdhnabRul4
import Derived.Test.YtloaikmiofdhnabClo2
set_option linter.unusedSimpArgs false
set_option linter.unusedVariables false
set_option linter.unusedSectionVars false
namespace Go.Proofs.Ytloaikmiofdhnab
open Go.RowKit
def OwnV (v : Value) (us : List Value) (w : World) (S : Nat → Prop) : Prop := (w.ownsRow 0 110 1 v us.length us ∧ us.length ≤ 17592186044415) ∧ ∀ q, v.ownBlock = some q → S q
theorem ownV_loc (v : Value) (us : List Value) : Loc (OwnV v us) where
  keep hs ha h := ⟨⟨own_agree h.1.1 fun q hq e => ha q hq (h.2 q e), h.1.2⟩, fun q hq => hs q (h.1.1.lt q hq).2 (h.2 q hq)⟩
def ownVI (v : Value) (us : List Value) : Itm := ⟨_, ownV_loc v us⟩
theorem rdV_own {w : World} {base : Nat} {v : Value} {us : List Value} (h : w.ownsRow base 110 1 v us.length us) (hl : us.length ≤ 17592186044415) : RdV w v us := by
  obtain ⟨hlen, hor⟩ := h
  rcases hor with ⟨hv, hn⟩ | ⟨g, cap, cur, hv, hb, hg, hnc, hcm, hcs, ht⟩
  · exact ⟨none, 0, by rw [hv, hn], hl, fun j hj => by omega⟩
  · refine ⟨some ⟨g, 0, none⟩, cap, hv, hl, fun j hj => ⟨g, 0, rfl, (Array.getElem?_eq_some_iff.1 hg).1, fun i hi => ?_⟩⟩
    have h1 : us[i]? = some (us.getD i undef) := by simp [List.getD_eq_getElem?_getD, List.getElem?_eq_getElem hi]
    have h2 : (cur.toList.take us.length)[i]? = some (us.getD i undef) := by rw [← h1]; rw [Nat.mul_one] at ht; exact congrArg (·[i]?) ht
    rw [cell_of_row w g (0 + i) cur _ (0, 0) hg]
    rw [List.getElem?_take, if_pos hi] at h2
    simpa using h2
theorem mem_ownV {w0 w : World} {is : List Itm} {n : Nat} {v : Value} {us : List Value} (M : Mem w0 w is) (h : is[n]? = some (ownVI v us)) : RdV w v us := by
  obtain ⟨S, _, hp⟩ := mem_get M h
  exact rdV_own hp.1.1 hp.1.2
/-- The list is there in each world that has the call's blocks as they are. -/
theorem ownV_kept {w0 w w' : World} {is : List Itm} {n : Nat} {v : Value} {us : List Value} (M : Mem w0 w is) (h : is[n]? = some (ownVI v us)) (hk : ∀ k, w0.heap.size ≤ k → k < w.heap.size → w'.heap[k]? = w.heap[k]?) : RdV w' v us := by
  obtain ⟨S, hS, hp⟩ := mem_get M h
  exact rdV_own (own_agree hp.1.1 fun q hq e => hk q (hS q (hp.2 q e)) hq) hp.1.2
theorem fv_kept {W0 w0 w w' : World} {is : List Itm} {n : Nat} {Sp : World → Prop} (M : Mem w0 w is) (h : is[n]? = some (fvI W0 Sp)) (hb : Below W0.heap.size W0 w') (hk : ∀ k, w0.heap.size ≤ k → k < w.heap.size → w'.heap[k]? = w.heap[k]?) : Sp w' := by
  obtain ⟨S, hS, hp⟩ := mem_get M h
  exact hp w' hb fun k h1 h2 => hk k (hS k h2) h1
theorem mem_fvW {W0 w0 w : World} {is : List Itm} {n : Nat} {Sp : World → Prop} (hB : Below W0.heap.size W0 w0) (M : Mem w0 w is) (h : is[n]? = some (fvI W0 Sp)) {w' : World} (hb : Below w.heap.size w w') : Sp w' :=
  fv_kept M h ((hB.trans (M.1.mono hB.size)).trans (hb.mono (Nat.le_trans hB.size M.1.size))) fun k _ h2 => hb.block k h2
/-- Two such things become one. -/
theorem mem_fvjoin {W0 w0 w : World} {L : List Itm} {n : Nat} {A B : World → Prop} (h : L[n]? = some (fvI W0 A)) (M : Mem w0 w (L ++ [fvI W0 B])) : Mem w0 w (L.set n (fvI W0 (fun w => A w ∧ B w))) := by
  have hn : n < L.length := (List.getElem?_eq_some_iff.1 h).1
  have h1 : Star (fvI W0 B :: L) w (fun k => w0.heap.size ≤ k) := star_perm (List.perm_append_singleton _ _) M.2
  obtain ⟨S1, S2, k1, k2, kd, hp, h2⟩ := h1
  obtain ⟨T1, T2, t1, t2, td, hq, h3⟩ := star_pick L h h2
  refine ⟨M.1, star_unpick _ hn ⟨fun k => T1 k ∨ S1 k, T2, fun k h => h.elim (fun h => k2 k (t1 k h)) (k1 k), fun k h => k2 k (t2 k h), fun k a b => a.elim (fun a => td k a b) (fun a => kd k a (t2 k b)), ?_, h3⟩⟩
  intro w' hb hk
  exact ⟨hq w' hb fun k h1 h2 => hk k h1 (.inl h2), hp w' hb fun k h1 h2 => hk k h1 (.inr h2)⟩
section
variable {w0 : World} {is : List Itm} {ops : Array Oper} {Q : Exit → Act → World → Prop} {o : Oper} {rest : List Oper} {N : Nat} {e : Env} {v u : Value} {d : Nat} {K : Act → World → Prop} {f : FuncId} {fn : Func} {ags : Array Operand} {ts : Array TypeId} {vs : List Value}
theorem gk_fvjoin {W0 : World} {L : List Itm} (n : Nat) {A B : World → Prop} (h : L[n]? = some (fvI W0 A)) (hk : GK w0 (L.set n (fvI W0 (fun w => A w ∧ B w))) N K e) : GK w0 (L ++ [fvI W0 B]) N K e := fun w a M F => hk w a (mem_fvjoin h M) F
theorem gc_fvnew {W0 : World} {c : Code} {A : World → Prop} (h : ∀ w, A w) (hk : GC w0 (is ++ [fvI W0 A]) N c Q e) : GC w0 is N c Q e := fun w a M F => hk w a (mem_new M (Below.refl _ _) fun w' _ _ => h w') F
theorem mem_nilV {w : World} (M : Mem w0 w is) : Mem w0 w (is ++ [ownVI (.slice none 0 0) []]) := mem_new M (Below.refl _ _) ⟨⟨World.ownsRow_nil w 0 _ 1, by simp⟩, fun q hq => by simp [Value.ownBlock] at hq⟩
theorem gc_nilV {c : Code} (hk : GC w0 (is ++ [ownVI (.slice none 0 0) []]) N c Q e) : GC w0 is N c Q e := fun w a M F => hk w a (mem_nilV M) F
theorem go_callVFvW {W0 : World} {x : Operand} {Sp : World → Value → Prop} (hd : o.dst = some d) (hN : Nat.blt d N = true) (hop : o.op = .call { callee := .value x, args := ags, argTypes := ts }) (hx : evo e x = some u)
    (hargs : evoL e ags.toList = some vs) (hc : ∀ w, Mem w0 w is → CallsV u vs w (RetFv W0 w Sp)) (hk : ∀ v, GK w0 (is ++ [fvI W0 (fun w => Sp w v)]) N K ((d, v) :: e)) : GO w0 is N o e Q K := by
  intro w a M F
  refine go_callV hd hN F hop hx hargs (hc w M) fun e' w' hR => ?_
  obtain ⟨v, rfl, hs, hb⟩ := hR
  exact ⟨_, rfl, fun a F => hk v w' a (mem_new M hb fun w'' h1 h2 => hs w'' h1 fun k h3 h4 => h2 k h4 h3) F⟩
theorem go_sliceV1W {t : TypeId} {x : Operand} (hd : o.dst = some d) (hN : Nat.blt d N = true) (hop : o.op = .buildSlice t 1 #[(0, x)]) (hx : evo e x = some u) (ht : Try.prog.underlying t = some (.slice 110)) (hu : ∀ w, Mem w0 w is → IsFn u)
    (hk : ∀ B : Nat, IsFn u → GK w0 (is ++ [bxI B 110 [u]]) N K ((d, .slice (some ⟨B, 0, none⟩) 1 1) :: e)) : GO w0 is N o e Q K := by
  intro w a M F
  exact go_sliceV1 hd hN hop hx ht (fun w M => (hu w M).cells) (fun B => hk B (hu w M)) w a M F
theorem go_appendV {s x : Operand} {t : TypeId} {n m B : Nat} {us : List Value} (hd : o.dst = some d) (hN : Nat.blt d N = true) (hop : o.op = .call { callee := .builtin .append, args := #[s, x], argTypes := #[t, t] }) (ht : Try.prog.underlying t = some (.slice 110))
    (hs : evo e s = some v) (hx : evo e x = some (.slice (some ⟨B, 0, none⟩) 1 1)) (hi : is[n]? = some (ownVI v us)) (hj : is[m]? = some (bxI B 110 [u])) (hu : IsFn u) (hn : us.length + 1 ≤ 17592186044415)
    (hk : ∀ a cap, GK w0 (is.set n (ownVI (.slice a (us ++ [u]).length cap) (us ++ [u]))) N K ((d, .slice a (us ++ [u]).length cap) :: e)) : GO w0 is N o e Q K := by
  intro w ac M F
  have h0 := bx_cell (mem_bx M hj) 0 (v := u) rfl
  obtain ⟨S, hS, hp, hset⟩ := mem_set M hi
  have hp' : OwnV v us w S := hp
  obtain ⟨i, hi', hz, hs1, hb⟩ := info_parts infoV
  obtain ⟨v', w', hr, hown, hgrow, _, hat⟩ := run_append_own_at (P := Try.prog) w 0 t o.type 110 i .nilFunc 1 8 ht hi' hz hs1 hb rfl (by decide) v us.length us hp'.1.1 ⟨B, 0, none⟩ 1 1 [u] rfl (fun j y hy => by
    cases j with
    | zero => simp at hy; subst hy; simpa [Addr.add] using h0
    | succ j => simp at hy) (by intro y hy; rw [List.mem_singleton.1 hy]; exact hu.one) (by unfold maxLen; omega) (by omega) (Nat.zero_le _)
  have hl : (us ++ [u]).length = us.length + 1 := by simp
  have hown' : w'.ownsRow 0 110 1 v' (us ++ [u]).length (us ++ [u]) := by rw [hl]; exact hown
  have hf := rdV_form (rdV_own hown' (by omega))
  obtain ⟨va, vc, rfl⟩ := hf
  refine go_val (v := .slice va (us ++ [u]).length vc) (w' := w') hd hN F ?_ fun ac F => hk va vc w' ac (hset w' (ownVI (.slice va (us ++ [u]).length vc) (us ++ [u])) (frS_grown hgrow hp'.2) ⟨⟨hown', by omega⟩, fun q hq => ?_⟩) F
  · intro ρ F; have hs := F _ _ hs; have hx := F _ _ hx
    simp only [execOp, hop, resolve, invoke, builtin, Sem.run_bind, Sem.run_pure, Result.andThen_ok, List.map_toArray, List.map_cons, List.map_nil, hs, hx]
    rw [hr]
    rfl
  · rcases hat with hat | hat
    · exact .inl (hp'.2 q (by rw [← hat]; exact hq))
    · rw [hat] at hq; exact .inr (by simp at hq; omega)
end
theorem sp_step {Q : Nat → World → Value → Prop} {w : World} {k : Nat} {us : List Value} {u : Value} (hl : us.length = k) (hA : ∀ i : Nat, i < k → Q i w (us.getD i undef)) (hB : Q k w u) : ∀ i : Nat, i < k + 1 → Q i w ((us ++ [u]).getD i undef) := fun i hi => by
  rcases Nat.lt_or_ge i k with h | h
  · rw [List.getD_eq_getElem?_getD, List.getElem?_append_left (by omega), ← List.getD_eq_getElem?_getD]; exact hA i h
  · obtain rfl : i = k := by omega
    rw [List.getD_eq_getElem?_getD, List.getElem?_append_right (by omega), hl]; simpa using hB
theorem gk_fvstep {w0 W0 : World} {is L : List Itm} {N : Nat} {K : Act → World → Prop} {e : Env} (n : Nat) {A B : World → Prop} (his : is = L ++ [fvI W0 B]) (h : L[n]? = some (fvI W0 A)) (C : World → Prop) (hC : ∀ w, A w → B w → C w) (hk : GK w0 (L.set n (fvI W0 C)) N K e) : GK w0 is N K e := by
  subst his
  refine gk_fvjoin n h ?_
  have hn : n < L.length := (List.getElem?_eq_some_iff.1 h).1
  intro w a M F
  refine hk w a ?_ F
  have h1 := star_pick _ (n := n) (by rw [List.getElem?_set_self hn]) M.2
  have h2 := star_unpick (L.set n (fvI W0 fun w => A w ∧ B w)) (n := n) (i := fvI W0 C) (by simpa using hn) (by
    obtain ⟨S1, S2, k1, k2, kd, hq, hr⟩ := h1
    exact ⟨S1, S2, k1, k2, kd, fun w' hb hk => hC w' (hq w' hb hk).1 (hq w' hb hk).2, hr⟩)
  rw [List.set_set] at h2
  exact ⟨M.1, h2⟩
/-- A list of function values that a call hands back, with a code. -/
def RetFam (W0 W : World) (code : Int) (n : Nat) (Sp : World → List Value → Prop) (e : Ending) (w' : World) : Prop :=
  ∃ v us, e = .returned (.tuple #[v, .int .i64 code]) ∧ us.length = n ∧ (∀ w'', Below W0.heap.size W0 w'' → (∀ k, W.heap.size ≤ k → k < w'.heap.size → w''.heap[k]? = w'.heap[k]?) → RdV w'' v us ∧ Sp w'' us) ∧ Below W.heap.size W w'
theorem go_callFam {w0 : World} {is : List Itm} {Q : Exit → Act → World → Prop} {o : Oper} {N : Nat} {e : Env} {d : Nat} {K : Act → World → Prop} {f : FuncId} {fn : Func} {ags : Array Operand} {ts : Array TypeId} {vs : List Value} {code : Int} {n : Nat} {Sp : World → List Value → Prop} (hd : o.dst = some d) (hN : Nat.blt d N = true) (hop : o.op = .call { callee := .value (.func f), args := ags, argTypes := ts }) (hfn : Try.prog.funcs[f]? = some fn) (hb : fn.body.isNone = false) (hn : (fn.name == "runtime.NumGoroutine") = false)
    (hargs : evoL e ags.toList = some vs) (hc : ∀ w, Mem w0 w is → Calls Try.prog f vs.toArray w (RetFam w0 w code n Sp)) (hk : ∀ v us, us.length = n → GK w0 (is ++ [fvI w0 (fun w => RdV w v us ∧ Sp w us)]) N K ((d, .tuple #[v, .int .i64 code]) :: e)) : GO w0 is N o e Q K := by
  intro w a M F
  refine go_call hd hN F hop hfn hb hn hargs (hc w M) fun e' w' hR => ?_
  obtain ⟨v, us, rfl, hl, hs, hb⟩ := hR
  exact ⟨_, rfl, fun a F => hk v us hl w' a (mem_new M hb fun w'' h1 h2 => hs w'' h1 fun k h3 h4 => h2 k h4 h3) F⟩
end Go.Proofs.Ytloaikmiofdhnab
