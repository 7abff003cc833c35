
/- Lists of entries that are made and written by place; the map that numbers entries, asked whether it has one. -/
import Derived.Test.YtgkfampgofjkfaaClo
set_option linter.unusedSimpArgs false
set_option linter.unusedVariables false
set_option linter.unusedSectionVars false
namespace Go.Proofs.Ytgkfampgofjkfaa
open Go.RowKit


theorem take_put2 {α : Type} (l us : List α) (j N : Nat) (hj : j + us.length ≤ N) {z : Nat} (hz : us.length = z) : List.take N (l.take j ++ us ++ l.drop (j + z)) = (l.take N).take j ++ us ++ (l.take N).drop (j + z) := by
  subst hz
  by_cases hl : j ≤ l.length
  · have h1 : (l.take j ++ us).length = j + us.length := by simp [List.length_take]; omega
    rw [List.take_append, List.take_of_length_le (by omega), h1, List.drop_take, List.take_take, Nat.min_eq_left (by omega)]
  · have hd : ∀ k, j ≤ k → l.drop k = [] := fun k hk => List.drop_eq_nil_of_le (by omega)
    rw [List.take_take, Nat.min_eq_left (by omega), hd _ (by omega), List.drop_take, hd _ (by omega), List.take_nil, List.append_nil, List.take_of_length_le]
    simp [List.length_take]; omega
theorem flat_set {α : Type} (L : Lab α) (en : Ent α) : ∀ (es : List (Ent α)) {j : Nat}, j < es.length → (es.set j en).flatMap (enc L) = (es.flatMap (enc L)).take (j * (L.z + 2)) ++ enc L en ++ (es.flatMap (enc L)).drop (j * (L.z + 2) + (L.z + 2))
  | [], j, hj => by simp at hj
  | e :: es, 0, _ => by
    have h := enc_len L e
    simp only [List.set_cons_zero, List.flatMap_cons, Nat.zero_mul, List.take_zero, List.nil_append, Nat.zero_add]
    rw [List.drop_append_of_le_length (by omega), List.drop_eq_nil_of_le (by omega), List.nil_append]
  | e :: es, j + 1, hj => by
    have h := enc_len L e
    have ih := flat_set L en es (j := j) (by simpa using hj)
    have e1 : (j + 1) * (L.z + 2) = (enc L e).length + j * (L.z + 2) := by rw [Nat.succ_mul, h]; omega
    have e2 : (j + 1) * (L.z + 2) + (L.z + 2) = (enc L e).length + (j * (L.z + 2) + (L.z + 2)) := by rw [e1]; omega
    rw [List.set_cons_succ, List.flatMap_cons, ih, List.flatMap_cons, e2, e1, List.take_length_add_append, List.drop_length_add_append]
    simp only [List.append_assoc]
def ent0 : Ent Int := (0, 0, 0)
section
variable {w0 : World} {is : List Itm} {ops : Array Oper} {Q : Exit → Act → World → Prop} {o : Oper} {rest : List Oper} {N : Frm} {n : Nat} {e : Env} {v : Value} {d : Nat} {K : Act → World → Prop}
theorem qt_lookN2 {α : Type} [DecidableEq α] (L : Lab α) {x y : Operand} {t : TypeId} {B : Nat} {a b : Int} {l : α} {es : List (Ent α)} (hop : o.op = .lookup t x y true) (hx : evo e x = some (.map (some B))) (hy : evo e y = some (.agg (Value.int .i64 a :: Value.int .i64 b :: L.lc l).toArray))
    (ht : t = L.tM) (hr : ∀ w, Mem w0 w is → RdN L w B es) : QV w0 is o e (.tuple #[.int .i64 (posE es (a, b, l)), .bool (decide ((a, b, l) ∈ es))]) :=
  fun w ac M F => by
    subst ht
    obtain ⟨k, hk⟩ : ∃ k : Ent α, k = (a, b, l) := ⟨_, rfl⟩
    have hy : evo e y = some (encA L k) := by rw [hk]; exact hy
    rw [← hk]
    have hx := F _ _ hx; have hy := F _ _ hy
    obtain ⟨xs, cl, hb, hp⟩ := hr w M
    obtain ⟨r, hr, h1, h2⟩ := run_findE L k w hp
    obtain ⟨i, hi', hz, hs, hbb⟩ := info_parts info64
    have hck : (Instr.checkKey xs.isEmpty 10000 L.tE (encA L k)).run Try.prog w = .ok () w := L.chk _ _ _ _ w
    by_cases hm : k ∈ es
    · obtain ⟨j, rfl⟩ := h1 hm
      simp [execOp, hop, hx, hy, Instr.lookup, run_underlying L.um, MapKept.run_getObj_map hb, hck, hr, hm, posE, Sem.run_bind, Result.andThen]
    · obtain rfl := h2 hm
      simp [execOp, hop, hx, hy, Instr.lookup, run_underlying L.um, MapKept.run_getObj_map hb, hck, hr, hm, posE, Sem.run_bind, Result.andThen, zeroValue, typeInfo, hi', hz]
theorem numE_len {α : Type} {L : Lab α} : ∀ {xs : List MapEntry} {es : List (Ent α)} {k : Nat}, NumE L k xs es → xs.length = es.length
  | [], [], _, _ => rfl
  | [], _ :: _, _, h => h.elim
  | _ :: _, [], _, h => h.elim
  | _ :: _, _ :: _, _, h => by simp [numE_len h.2.2]
theorem qt_lenN {α : Type} (L : Lab α) {x : Operand} {t : TypeId} {B : Nat} {es : List (Ent α)} (hop : o.op = .call { callee := .builtin .len, args := #[x], argTypes := #[t] }) (hx : evo e x = some (.map (some B))) (ht : t = L.tM) (hr : ∀ w, Mem w0 w is → RdN L w B es) : QV w0 is o e (.int .i64 (es.length : Int)) :=
  fun w ac M F => by
    subst ht
    have hx := F _ _ hx
    obtain ⟨xs, cl, hb, hp⟩ := hr w M
    have hl := numE_len hp
    simp at hl
    simp [execOp, hop, hx, resolve, invoke, builtin, Builtin.len_, run_underlying L.um, MapKept.run_getObj_map hb, hl, goInt, Sem.run_bind, Result.andThen]
end

end Go.Proofs.Ytgkfampgofjkfaa
