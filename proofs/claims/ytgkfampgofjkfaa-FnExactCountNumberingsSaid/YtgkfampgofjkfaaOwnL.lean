
/- The model's copies and comparisons of lists, rows and categories. -/
import Derived.Test.YtgkfampgofjkfaaShort
import Derived.Test.YtgkfampgofjkfaaTab
set_option linter.unusedSimpArgs false
set_option linter.unusedVariables false
set_option linter.unusedSectionVars false
namespace Go.Proofs.Ytgkfampgofjkfaa
open Go.RowKit


section
variable {w0 : World} {is : List Itm} {ops : Array Oper} {Q : Exit → Act → World → Prop} {o : Oper} {rest : List Oper} {N : Frm} {e : Env} {v : Value} {d : Nat} {K : Act → World → Prop}
/-- 'append(s, x..)', s of the call's own, x whatever list, nil too. -/
theorem go_appendA {s x : Operand} {t : TypeId} {n : Nat} {xs ys : List Int} {ua : Option Addr} {un uc : Nat} (hd : o.dst = some d) (hN : Nat.blt d N = true) (hop : o.op = .call { callee := .builtin .append, args := #[s, x], argTypes := #[t, t] }) (ht : Try.prog.underlying t = some (.slice 2))
  (hs : evo e s = some v) (hx : evo e x = some (.slice ua un uc)) (hi : is[n]? = some (own1I v xs)) (hj : ∀ w, Mem w0 w is → Rd w (.slice ua un uc) ys) (hn : xs.length + ys.length ≤ 17592186044415)
  (hk : ∀ a cap, GK w0 (is.set n (own1I (.slice a (xs ++ ys).length cap) (xs ++ ys))) N K ((d, .slice a (xs ++ ys).length cap) :: e)) : GO w0 is N o e Q K := by
 cases ua with
 | some q => exact go_appendL hd hN hop ht hs hx hi hj rfl hn hk
 | none =>
  intro w ac M F
  obtain ⟨ad, cap, hv, _, hc⟩ := hj w M
  have hy : ys = [] := by
   rcases Nat.eq_zero_or_pos ys.length with h0 | h0
   ·exact List.eq_nil_of_length_eq_zero h0
   ·obtain ⟨b, off, ha, _⟩ := hc 0 h0
    subst ha; cases hv
  subst hy
  simp only [Value.slice.injEq, List.length_nil] at hv
  obtain ⟨_, rfl, _⟩ := hv
  simp only [List.append_nil] at hk
  obtain ⟨S, hS, hp, hset⟩ := mem_set M hi
  have hp : Own1 v xs w S := hp
  obtain ⟨va, vc, hvf, _⟩ := sl_form hp.1
  obtain ⟨i, hi', hz, hs1, hb⟩ := info_parts info64
  have hr : (Builtin.append_ #[t, t] o.type #[v, .slice none 0 uc]).run Try.prog w = .ok v w := by
   rcases hp.1.1.2 with ⟨rfl, _⟩ | ⟨g, cap, cur, rfl, _, _, hnc, _⟩
   ·simp [Builtin.append_, run_underlying ht, sizeOf, typeInfo, hi', Builtin.lenOf, Builtin.firstCells]
   ·simp [Builtin.append_, run_underlying ht, sizeOf, typeInfo, hi', Builtin.lenOf, Builtin.firstCells, hnc, storeCells]
  subst hvf
  have hM : Mem w0 w (is.set n (own1I (.slice va xs.length vc) xs)) := by
   have : is.set n (own1I (.slice va xs.length vc) xs) = is := by
    have h1 := (List.getElem?_eq_some_iff.1 hi)
    obtain ⟨hlt, he⟩ := h1
    rw [← he, List.set_getElem_self]
   rw [this]; exact M
  refine go_val (v := .slice va xs.length vc) (w' := w) hd hN F ?_ fun ac F => hk va vc w ac hM F
  intro ρ F; have hs := F _ _ hs; have hx := F _ _ hx
  simp only [execOp, hop, resolve, invoke, builtin, Sem.run_bind, Sem.run_pure, Result.andThen_ok, List.map_toArray, List.map_cons, List.map_nil, hs, hx]
  rw [hr]
  rfl
end
theorem take2_succ {xs : List (List Int)} {k : Nat} (h : k < xs.length) : xs.take k ++ [row2 xs (k : Int)] = xs.take (k + 1) := by
 rw [List.take_succ_eq_append_getElem h]; simp [row2, List.getD_eq_getElem?_getD, List.getElem?_eq_getElem h]
theorem take2_len {xs : List (List Int)} {k : Nat} (h : k ≤ xs.length) : (xs.take k).length = k := by simp; omega

end Go.Proofs.Ytgkfampgofjkfaa
