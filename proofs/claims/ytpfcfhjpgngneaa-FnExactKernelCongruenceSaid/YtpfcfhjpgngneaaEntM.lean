
/- Lists of entries that are made and written by place; the map that numbers entries, asked whether it has one. -/
import Derived.Test.YtpfcfhjpgngneaaClo
set_option linter.unusedSimpArgs false
set_option linter.unusedVariables false
set_option linter.unusedSectionVars false
namespace Go.Proofs.Ytpfcfhjpgngneaa
open Go.RowKit


theorem take_put2 {α : Type} (l us : List α) (j N : Nat) (hj : j + us.length ≤ N) {z : Nat} (hz : us.length = z) : List.take N (l.take j ++ us ++ l.drop (j + z)) = (l.take N).take j ++ us ++ (l.take N).drop (j + z) := by
  subst hz
  by_cases hl : j ≤ l.length
  · have h1 : (l.take j ++ us).length = j + us.length := by simp [List.length_take]; omega
    rw [List.take_append, List.take_of_length_le (by omega), h1, List.drop_take, List.take_take, Nat.min_eq_left (by omega)]
  · have hd : ∀ k, j ≤ k → l.drop k = [] := fun k hk => List.drop_eq_nil_of_le (by omega)
    rw [List.take_take, Nat.min_eq_left (by omega), hd _ (by omega), List.drop_take, hd _ (by omega), List.take_nil, List.append_nil, List.take_of_length_le]
    simp [List.length_take]; omega
theorem flat_set {α : Type} (L : Lab α) (en : Ent α) : ∀ (es : List (Ent α)) {j : Nat}, j < es.length → (es.set j en).flatMap (enc L) = (es.flatMap (enc L)).take (j * (L.z + 2)) ++ enc L en ++ (es.flatMap (enc L)).drop (j * (L.z + 2) + (L.z + 2))
  | [], j, hj => by simp at hj
  | e :: es, 0, _ => by
    have h := enc_len L e
    simp only [List.set_cons_zero, List.flatMap_cons, Nat.zero_mul, List.take_zero, List.nil_append, Nat.zero_add]
    rw [List.drop_append_of_le_length (by omega), List.drop_eq_nil_of_le (by omega), List.nil_append]
  | e :: es, j + 1, hj => by
    have h := enc_len L e
    have ih := flat_set L en es (j := j) (by simpa using hj)
    have e1 : (j + 1) * (L.z + 2) = (enc L e).length + j * (L.z + 2) := by rw [Nat.succ_mul, h]; omega
    have e2 : (j + 1) * (L.z + 2) + (L.z + 2) = (enc L e).length + (j * (L.z + 2) + (L.z + 2)) := by rw [e1]; omega
    rw [List.set_cons_succ, List.flatMap_cons, ih, List.flatMap_cons, e2, e1, List.take_length_add_append, List.drop_length_add_append]
    simp only [List.append_assoc]
def ent0 : Ent Int := (0, 0, 0)
theorem flat_zero : ∀ n : Nat, (List.replicate n ent0).flatMap (enc lab_int) = List.replicate (n * 3) (.int .i64 0)
  | 0 => by simp
  | n + 1 => by rw [List.replicate_succ, List.flatMap_cons, flat_zero n, Nat.succ_mul]; rw [show n * 3 + 3 = (n * 3 + 2) + 1 from rfl, List.replicate_succ, show n * 3 + 2 = (n * 3 + 1) + 1 from rfl, List.replicate_succ, List.replicate_succ]; rfl
theorem made_zero (n : Nat) : (madeCells lab_int.zc.cells (n * 3)).toList = List.replicate (n * 3) (.int .i64 0) := by
  apply List.ext_getElem?
  intro j
  by_cases hj : j < n * 3
  · have h3 : j % 3 < 3 := Nat.mod_lt _ (by omega)
    have e : lab_int.zc.cells = #[.int .i64 0, .int .i64 0, .int .i64 0] := rfl
    rw [e]
    simp [madeCells, hj]
    rcases (show j % 3 = 0 ∨ j % 3 = 1 ∨ j % 3 = 2 by omega) with h | h | h <;> rw [h] <;> rfl
  · simp [madeCells, hj]
section
variable {w0 : World} {is : List Itm} {ops : Array Oper} {Q : Exit → Act → World → Prop} {o : Oper} {rest : List Oper} {N n : Nat} {e : Env} {v : Value} {d : Nat} {K : Act → World → Prop}
theorem go_makeE {x y : Operand} {t : TypeId} {n : Nat} (hd : o.dst = some d) (hN : Nat.blt d N = true) (hop : o.op = .makeSlice t x y) (ht : t = lab_int.tS) (hx : evo e x = some (.int .i64 (n : Int))) (hy : evo e y = some (.int .i64 (n : Int))) (hn : n ≤ 100000)
    (hk : ∀ B : Nat, GK w0 (is ++ [ownEI lab_int (.slice (some ⟨B, 0, none⟩) n n) (List.replicate n ent0)]) N K ((d, .slice (some ⟨B, 0, none⟩) n n) :: e)) : GO w0 is N o e Q K := by
  subst ht
  intro w ac M F
  obtain ⟨i, hi, hz, hs, hb⟩ := info_parts lab_int.inf
  have hb24 : i.bytes = 24 := hb
  have hr := run_make (P := Try.prog) w lab_int.tS lab_int.tE i lab_int.zc lab_int.ul hi hz .i64 .i64 n n (by omega) (Int.le_refl _) (by rw [hb24]; omega) (by omega)
  simp only [Int.toNat_natCast] at hr
  have hO : OwnE lab_int (.slice (some ⟨w.heap.size, 0, none⟩) n n) (List.replicate n ent0) (w.alloc (.cells (madeCells lab_int.zc.cells (n * i.size)) lab_int.tE)) (fun k => w.heap.size ≤ k) := by
    have h3 : i.size = 3 := hs
    rw [h3]
    have hl : (w.alloc (.cells (madeCells lab_int.zc.cells (n * 3)) lab_int.tE)).ownsRow 0 lab_int.tE 3 (.slice (some ⟨w.heap.size, 0, none⟩) n n) n (madeCells lab_int.zc.cells (n * 3)).toList := World.ownsRow_lit w _ n (Nat.zero_le _) (show n ≤ maxLen by unfold maxLen; omega) (size_madeCells _ _)
    rw [made_zero, ← flat_zero] at hl
    refine ⟨?_, by rw [List.length_replicate]; show n ≤ lab_int.cap; exact Nat.le_trans hn (by decide), fun q hq => by simp [Value.ownBlock] at hq; omega⟩
    rw [List.length_replicate]; exact hl
  refine go_val (v := .slice (some ⟨w.heap.size, 0, none⟩) n n) (w' := _) hd hN F ?_ fun ac F => hk w.heap.size _ ac (mem_new M (below_alloc w _) hO) F
  intro ρ F; have hx := F _ _ hx; have hy := F _ _ hy
  simp only [execOp, hop, hx, hy, Sem.run_bind, hr, Result.andThen_ok]
  rfl
theorem go_storeE {x y : Operand} {t : TypeId} {u : Value} {es : List (Ent Int)} {i a b l : Int} (hd : o.dst = none) (hop : o.op = .store t x y) (hx : evo e x = some (eltE 3 u i)) (hy : evo e y = some (.agg #[.int .i64 a, .int .i64 b, .int .i64 l])) (ht : t = lab_int.tE)
    (hi : is[n]? = some (ownEI lab_int u es)) (h0 : 0 ≤ i) (h1 : i < es.length) (hk : GK w0 (is.set n (ownEI lab_int u (es.set i.toNat (a, b, l)))) N K e) : GO w0 is N o e Q K := by
  subst ht
  obtain ⟨en, hen⟩ : ∃ en : Ent Int, en = (a, b, l) := ⟨_, rfl⟩
  have hy : evo e y = some (encA lab_int en) := by rw [hen]; exact hy
  rw [← hen] at hk
  intro w ac M F
  obtain ⟨S, hS, hp, hset⟩ := mem_set M hi
  have hp : OwnE lab_int u es w S := hp
  obtain ⟨hown, hcap, hS2⟩ := hp
  have hlt : i.toNat < es.length := by omega
  rcases hown.2 with ⟨_, hn⟩ | ⟨g, cap, cur, rfl, hb, hg, hncap, hmax, hsz, htk⟩
  · omega
  have hfl : (es.flatMap (enc lab_int)).length = es.length * 3 := flat_len lab_int es
  have hcur : es.length * 3 ≤ cur.size := by rw [hsz]; exact Nat.mul_le_mul_right 3 hncap
  have hen3 : (enc lab_int en).length = 3 := enc_len lab_int en
  have hroom : i.toNat * 3 + 3 ≤ cur.size := by omega
  have hr := run_storeCells_at (P := Try.prog) g (i.toNat * 3) lab_int.tE (enc lab_int en) 0 cur w hg (by rw [hen3]; omega) (fun v hv => List.all_eq_true.1 (enc_one lab_int en) v hv)
  simp only [Nat.add_zero] at hr
  have htk : cur.toList.take (es.length * 3) = es.flatMap (enc lab_int) := htk
  have hown2 : OwnE lab_int (.slice (some ⟨g, 0, none⟩) es.length cap) (es.set i.toNat en) (w.setRow g (cur.toList.take (i.toNat * 3) ++ enc lab_int en ++ cur.toList.drop (i.toNat * 3 + (enc lab_int en).length)).toArray) S := by
    refine ⟨⟨by rw [flat_len, List.length_set], .inr ⟨g, cap, _, by rw [List.length_set], hb, setRow_heap w g cur _ _ (0, 0) hg, by rw [List.length_set]; exact hncap, hmax, ?_, ?_⟩⟩, by rw [List.length_set]; exact hcap, hS2⟩
    · rw [hen3, ← hsz]
      simp only [List.size_toArray, List.length_append, List.length_take, List.length_drop, Array.length_toList, hen3]
      omega
    · rw [hen3, List.length_set]
      show List.take (es.length * 3) _ = _
      rw [take_put2 (cur.toList) _ _ _ (by omega) (by rw [hen3]), htk, flat_set lab_int en es hlt]
      show _ = List.take (i.toNat * 3) _ ++ _ ++ List.drop (i.toNat * 3 + 3) _
      rfl
  have hown3 : (ownEI lab_int (.slice (some ⟨g, 0, none⟩) es.length cap) (es.set i.toNat en)).p (w.setRow g (cur.toList.take (i.toNat * 3) ++ enc lab_int en ++ cur.toList.drop (i.toNat * 3 + (enc lab_int en).length)).toArray) (fun k => S k ∨ w.heap.size ≤ k) :=
    ⟨hown2.1, hown2.2.1, fun q hq => .inl (hown2.2.2 q hq)⟩
  refine go_skip (w' := w.setRow g _) hd F ?_ fun a F => hk _ a (hset _ _ ⟨rfl, rfl, rfl, by simp, fun k hk hr => setRow_other w g k _ (fun e => hr (by rw [e]; exact hS2 g rfl))⟩ hown3) F
  intro ρ F; have hx := F _ _ hx; have hy := F _ _ hy
  have hsi := lab_size lab_int
  cases hq : Try.prog.info? lab_int.tE with
  | none => rw [hq] at hsi; simp at hsi
  | some ii =>
    rw [hq] at hsi
    have hsz2 : ii.size = 3 := by simpa [show lab_int.z + 2 = 3 from rfl] using hsi
    simp [execOp, hop, hx, hy, eltE, encA, Instr.storeAt, Instr.sureAddr, storeVar, sizeOf, typeInfo, hq, Value.cells, hen3, hsz2, hr, Sem.run_bind]
theorem qt_lookN2 {α : Type} [DecidableEq α] (L : Lab α) {x y : Operand} {t : TypeId} {B : Nat} {a b : Int} {l : α} {es : List (Ent α)} (hop : o.op = .lookup t x y true) (hx : evo e x = some (.map (some B))) (hy : evo e y = some (.agg (Value.int .i64 a :: Value.int .i64 b :: L.lc l).toArray))
    (ht : t = L.tM) (hr : ∀ w, Mem w0 w is → RdN L w B es) : QV w0 is o e (.tuple #[.int .i64 (posE es (a, b, l)), .bool (decide ((a, b, l) ∈ es))]) :=
  fun w ac M F => by
    subst ht
    obtain ⟨k, hk⟩ : ∃ k : Ent α, k = (a, b, l) := ⟨_, rfl⟩
    have hy : evo e y = some (encA L k) := by rw [hk]; exact hy
    rw [← hk]
    have hx := F _ _ hx; have hy := F _ _ hy
    obtain ⟨xs, cl, hb, hp⟩ := hr w M
    obtain ⟨r, hr, h1, h2⟩ := run_findE L k w hp
    obtain ⟨i, hi', hz, hs, hbb⟩ := info_parts info64
    have hck : (Instr.checkKey xs.isEmpty 10000 L.tE (encA L k)).run Try.prog w = .ok () w := L.chk _ _ _ _ w
    by_cases hm : k ∈ es
    · obtain ⟨j, rfl⟩ := h1 hm
      simp [execOp, hop, hx, hy, Instr.lookup, run_underlying L.um, MapKept.run_getObj_map hb, hck, hr, hm, posE, Sem.run_bind, Result.andThen]
    · obtain rfl := h2 hm
      simp [execOp, hop, hx, hy, Instr.lookup, run_underlying L.um, MapKept.run_getObj_map hb, hck, hr, hm, posE, Sem.run_bind, Result.andThen, zeroValue, typeInfo, hi', hz]
theorem numE_len {α : Type} {L : Lab α} : ∀ {xs : List MapEntry} {es : List (Ent α)} {k : Nat}, NumE L k xs es → xs.length = es.length
  | [], [], _, _ => rfl
  | [], _ :: _, _, h => h.elim
  | _ :: _, [], _, h => h.elim
  | _ :: _, _ :: _, _, h => by simp [numE_len h.2.2]
theorem qt_lenN {α : Type} (L : Lab α) {x : Operand} {t : TypeId} {B : Nat} {es : List (Ent α)} (hop : o.op = .call { callee := .builtin .len, args := #[x], argTypes := #[t] }) (hx : evo e x = some (.map (some B))) (ht : t = L.tM) (hr : ∀ w, Mem w0 w is → RdN L w B es) : QV w0 is o e (.int .i64 (es.length : Int)) :=
  fun w ac M F => by
    subst ht
    have hx := F _ _ hx
    obtain ⟨xs, cl, hb, hp⟩ := hr w M
    have hl := numE_len hp
    simp at hl
    simp [execOp, hop, hx, resolve, invoke, builtin, Builtin.len_, run_underlying L.um, MapKept.run_getObj_map hb, hl, goInt, Sem.run_bind, Result.andThen]
end

end Go.Proofs.Ytpfcfhjpgngneaa
