
/- What EntM, PartE, KerF, SurF, FulF hold, one behind the other. -/
import Derived.Test.YtpfcfhjpgngneaaClo
import Derived.Test.YtpfcfhjpgngneaaEnts
import Derived.Test.YtpfcfhjpgngneaaCong2
import Derived.Test.YtpfcfhjpgngneaaAsk
import Derived.Test.YtpfcfhjpgngneaaFunL
import Derived.Test.YtpfcfhjpgngneaaInv
import Derived.Test.YtpfcfhjpgngneaaThen
import Derived.Test.YtpfcfhjpgngneaaSub
set_option linter.unusedSimpArgs false
set_option linter.unusedVariables false
set_option linter.unusedSectionVars false
namespace Go.Proofs.Ytpfcfhjpgngneaa
open Go.RowKit
section
theorem take_put2 {α : Type} (l us : List α) (j N : Nat) (hj : j + us.length ≤ N) {z : Nat} (hz : us.length = z) : List.take N (l.take j ++ us ++ l.drop (j + z)) = (l.take N).take j ++ us ++ (l.take N).drop (j + z) := by
  subst hz
  by_cases hl : j ≤ l.length
  · have h1 : (l.take j ++ us).length = j + us.length := by simp [List.length_take]; omega
    rw [List.take_append, List.take_of_length_le (by omega), h1, List.drop_take, List.take_take, Nat.min_eq_left (by omega)]
  · have hd : ∀ k, j ≤ k → l.drop k = [] := fun k hk => List.drop_eq_nil_of_le (by omega)
    rw [List.take_take, Nat.min_eq_left (by omega), hd _ (by omega), List.drop_take, hd _ (by omega), List.take_nil, List.append_nil, List.take_of_length_le]
    simp [List.length_take]; omega
theorem flat_set {α : Type} (L : Lab α) (en : Ent α) : ∀ (es : List (Ent α)) {j : Nat}, j < es.length → (es.set j en).flatMap (enc L) = (es.flatMap (enc L)).take (j * (L.z + 2)) ++ enc L en ++ (es.flatMap (enc L)).drop (j * (L.z + 2) + (L.z + 2))
  | [], j, hj => by simp at hj
  | e :: es, 0, _ => by
    have h := enc_len L e
    simp only [List.set_cons_zero, List.flatMap_cons, Nat.zero_mul, List.take_zero, List.nil_append, Nat.zero_add]
    rw [List.drop_append_of_le_length (by omega), List.drop_eq_nil_of_le (by omega), List.nil_append]
  | e :: es, j + 1, hj => by
    have h := enc_len L e
    have ih := flat_set L en es (j := j) (by simpa using hj)
    have e1 : (j + 1) * (L.z + 2) = (enc L e).length + j * (L.z + 2) := by rw [Nat.succ_mul, h]; omega
    have e2 : (j + 1) * (L.z + 2) + (L.z + 2) = (enc L e).length + (j * (L.z + 2) + (L.z + 2)) := by rw [e1]; omega
    rw [List.set_cons_succ, List.flatMap_cons, ih, List.flatMap_cons, e2, e1, List.take_length_add_append, List.drop_length_add_append]
    simp only [List.append_assoc]
def ent0 : Ent Int := (0, 0, 0)
theorem flat_zero : ∀ n : Nat, (List.replicate n ent0).flatMap (enc lab_int) = List.replicate (n * 3) (.int .i64 0)
  | 0 => by simp
  | n + 1 => by rw [List.replicate_succ, List.flatMap_cons, flat_zero n, Nat.succ_mul]; rw [show n * 3 + 3 = (n * 3 + 2) + 1 from rfl, List.replicate_succ, show n * 3 + 2 = (n * 3 + 1) + 1 from rfl, List.replicate_succ, List.replicate_succ]; rfl
theorem made_zero (n : Nat) : (madeCells lab_int.zc.cells (n * 3)).toList = List.replicate (n * 3) (.int .i64 0) := by
  apply List.ext_getElem?
  intro j
  by_cases hj : j < n * 3
  · have h3 : j % 3 < 3 := Nat.mod_lt _ (by omega)
    have e : lab_int.zc.cells = #[.int .i64 0, .int .i64 0, .int .i64 0] := rfl
    rw [e]
    simp [madeCells, hj]
    rcases (show j % 3 = 0 ∨ j % 3 = 1 ∨ j % 3 = 2 by omega) with h | h | h <;> rw [h] <;> rfl
  · simp [madeCells, hj]
section
variable {w0 : World} {is : List Itm} {ops : Array Oper} {Q : Exit → Act → World → Prop} {o : Oper} {rest : List Oper} {N n : Nat} {e : Env} {v : Value} {d : Nat} {K : Act → World → Prop}
theorem go_makeE {x y : Operand} {t : TypeId} {n : Nat} (hd : o.dst = some d) (hN : Nat.blt d N = true) (hop : o.op = .makeSlice t x y) (ht : t = lab_int.tS) (hx : evo e x = some (.int .i64 (n : Int))) (hy : evo e y = some (.int .i64 (n : Int))) (hn : n ≤ 100000)
    (hk : ∀ B : Nat, GK w0 (is ++ [ownEI lab_int (.slice (some ⟨B, 0, none⟩) n n) (List.replicate n ent0)]) N K ((d, .slice (some ⟨B, 0, none⟩) n n) :: e)) : GO w0 is N o e Q K := by
  subst ht
  intro w ac M F
  obtain ⟨i, hi, hz, hs, hb⟩ := info_parts lab_int.inf
  have hb24 : i.bytes = 24 := hb
  have hr := run_make (P := Try.prog) w lab_int.tS lab_int.tE i lab_int.zc lab_int.ul hi hz .i64 .i64 n n (by omega) (Int.le_refl _) (by rw [hb24]; omega) (by omega)
  simp only [Int.toNat_natCast] at hr
  have hO : OwnE lab_int (.slice (some ⟨w.heap.size, 0, none⟩) n n) (List.replicate n ent0) (w.alloc (.cells (madeCells lab_int.zc.cells (n * i.size)) lab_int.tE)) (fun k => w.heap.size ≤ k) := by
    have h3 : i.size = 3 := hs
    rw [h3]
    have hl : (w.alloc (.cells (madeCells lab_int.zc.cells (n * 3)) lab_int.tE)).ownsRow 0 lab_int.tE 3 (.slice (some ⟨w.heap.size, 0, none⟩) n n) n (madeCells lab_int.zc.cells (n * 3)).toList := World.ownsRow_lit w _ n (Nat.zero_le _) (show n ≤ maxLen by unfold maxLen; omega) (size_madeCells _ _)
    rw [made_zero, ← flat_zero] at hl
    refine ⟨?_, by rw [List.length_replicate]; show n ≤ lab_int.cap; exact Nat.le_trans hn (by decide), fun q hq => by simp [Value.ownBlock] at hq; omega⟩
    rw [List.length_replicate]; exact hl
  refine go_val (v := .slice (some ⟨w.heap.size, 0, none⟩) n n) (w' := _) hd hN F ?_ fun ac F => hk w.heap.size _ ac (mem_new M (below_alloc w _) hO) F
  intro ρ F; have hx := F _ _ hx; have hy := F _ _ hy
  simp only [execOp, hop, hx, hy, Sem.run_bind, hr, Result.andThen_ok]
  rfl
theorem go_storeE {x y : Operand} {t : TypeId} {u : Value} {es : List (Ent Int)} {i a b l : Int} (hd : o.dst = none) (hop : o.op = .store t x y) (hx : evo e x = some (eltE 3 u i)) (hy : evo e y = some (.agg #[.int .i64 a, .int .i64 b, .int .i64 l])) (ht : t = lab_int.tE)
    (hi : is[n]? = some (ownEI lab_int u es)) (h0 : 0 ≤ i) (h1 : i < es.length) (hk : GK w0 (is.set n (ownEI lab_int u (es.set i.toNat (a, b, l)))) N K e) : GO w0 is N o e Q K := by
  subst ht
  obtain ⟨en, hen⟩ : ∃ en : Ent Int, en = (a, b, l) := ⟨_, rfl⟩
  have hy : evo e y = some (encA lab_int en) := by rw [hen]; exact hy
  rw [← hen] at hk
  intro w ac M F
  obtain ⟨S, hS, hp, hset⟩ := mem_set M hi
  have hp : OwnE lab_int u es w S := hp
  obtain ⟨hown, hcap, hS2⟩ := hp
  have hlt : i.toNat < es.length := by omega
  rcases hown.2 with ⟨_, hn⟩ | ⟨g, cap, cur, rfl, hb, hg, hncap, hmax, hsz, htk⟩
  · omega
  have hfl : (es.flatMap (enc lab_int)).length = es.length * 3 := flat_len lab_int es
  have hcur : es.length * 3 ≤ cur.size := by rw [hsz]; exact Nat.mul_le_mul_right 3 hncap
  have hen3 : (enc lab_int en).length = 3 := enc_len lab_int en
  have hroom : i.toNat * 3 + 3 ≤ cur.size := by omega
  have hr := run_storeCells_at (P := Try.prog) g (i.toNat * 3) lab_int.tE (enc lab_int en) 0 cur w hg (by rw [hen3]; omega) (fun v hv => List.all_eq_true.1 (enc_one lab_int en) v hv)
  simp only [Nat.add_zero] at hr
  have htk : cur.toList.take (es.length * 3) = es.flatMap (enc lab_int) := htk
  have hown2 : OwnE lab_int (.slice (some ⟨g, 0, none⟩) es.length cap) (es.set i.toNat en) (w.setRow g (cur.toList.take (i.toNat * 3) ++ enc lab_int en ++ cur.toList.drop (i.toNat * 3 + (enc lab_int en).length)).toArray) S := by
    refine ⟨⟨by rw [flat_len, List.length_set], .inr ⟨g, cap, _, by rw [List.length_set], hb, setRow_heap w g cur _ _ (0, 0) hg, by rw [List.length_set]; exact hncap, hmax, ?_, ?_⟩⟩, by rw [List.length_set]; exact hcap, hS2⟩
    · rw [hen3, ← hsz]
      simp only [List.size_toArray, List.length_append, List.length_take, List.length_drop, Array.length_toList, hen3]
      omega
    · rw [hen3, List.length_set]
      show List.take (es.length * 3) _ = _
      rw [take_put2 (cur.toList) _ _ _ (by omega) (by rw [hen3]), htk, flat_set lab_int en es hlt]
      show _ = List.take (i.toNat * 3) _ ++ _ ++ List.drop (i.toNat * 3 + 3) _
      rfl
  have hown3 : (ownEI lab_int (.slice (some ⟨g, 0, none⟩) es.length cap) (es.set i.toNat en)).p (w.setRow g (cur.toList.take (i.toNat * 3) ++ enc lab_int en ++ cur.toList.drop (i.toNat * 3 + (enc lab_int en).length)).toArray) (fun k => S k ∨ w.heap.size ≤ k) :=
    ⟨hown2.1, hown2.2.1, fun q hq => .inl (hown2.2.2 q hq)⟩
  refine go_skip (w' := w.setRow g _) hd F ?_ fun a F => hk _ a (hset _ _ ⟨rfl, rfl, rfl, by simp, fun k hk hr => setRow_other w g k _ (fun e => hr (by rw [e]; exact hS2 g rfl))⟩ hown3) F
  intro ρ F; have hx := F _ _ hx; have hy := F _ _ hy
  have hsi := lab_size lab_int
  cases hq : Try.prog.info? lab_int.tE with
  | none => rw [hq] at hsi; simp at hsi
  | some ii =>
    rw [hq] at hsi
    have hsz2 : ii.size = 3 := by simpa [show lab_int.z + 2 = 3 from rfl] using hsi
    simp [execOp, hop, hx, hy, eltE, encA, Instr.storeAt, Instr.sureAddr, storeVar, sizeOf, typeInfo, hq, Value.cells, hen3, hsz2, hr, Sem.run_bind]
theorem qt_lookN2 {α : Type} [DecidableEq α] (L : Lab α) {x y : Operand} {t : TypeId} {B : Nat} {a b : Int} {l : α} {es : List (Ent α)} (hop : o.op = .lookup t x y true) (hx : evo e x = some (.map (some B))) (hy : evo e y = some (.agg (Value.int .i64 a :: Value.int .i64 b :: L.lc l).toArray))
    (ht : t = L.tM) (hr : ∀ w, Mem w0 w is → RdN L w B es) : QV w0 is o e (.tuple #[.int .i64 (posE es (a, b, l)), .bool (decide ((a, b, l) ∈ es))]) :=
  fun w ac M F => by
    subst ht
    obtain ⟨k, hk⟩ : ∃ k : Ent α, k = (a, b, l) := ⟨_, rfl⟩
    have hy : evo e y = some (encA L k) := by rw [hk]; exact hy
    rw [← hk]
    have hx := F _ _ hx; have hy := F _ _ hy
    obtain ⟨xs, cl, hb, hp⟩ := hr w M
    obtain ⟨r, hr, h1, h2⟩ := run_findE L k w hp
    obtain ⟨i, hi', hz, hs, hbb⟩ := info_parts info64
    have hck : (Instr.checkKey xs.isEmpty 10000 L.tE (encA L k)).run Try.prog w = .ok () w := L.chk _ _ _ _ w
    by_cases hm : k ∈ es
    · obtain ⟨j, rfl⟩ := h1 hm
      simp [execOp, hop, hx, hy, Instr.lookup, run_underlying L.um, MapKept.run_getObj_map hb, hck, hr, hm, posE, Sem.run_bind, Result.andThen]
    · obtain rfl := h2 hm
      simp [execOp, hop, hx, hy, Instr.lookup, run_underlying L.um, MapKept.run_getObj_map hb, hck, hr, hm, posE, Sem.run_bind, Result.andThen, zeroValue, typeInfo, hi', hz]
theorem numE_len {α : Type} {L : Lab α} : ∀ {xs : List MapEntry} {es : List (Ent α)} {k : Nat}, NumE L k xs es → xs.length = es.length
  | [], [], _, _ => rfl
  | [], _ :: _, _, h => h.elim
  | _ :: _, [], _, h => h.elim
  | _ :: _, _ :: _, _, h => by simp [numE_len h.2.2]
theorem qt_lenN {α : Type} (L : Lab α) {x : Operand} {t : TypeId} {B : Nat} {es : List (Ent α)} (hop : o.op = .call { callee := .builtin .len, args := #[x], argTypes := #[t] }) (hx : evo e x = some (.map (some B))) (ht : t = L.tM) (hr : ∀ w, Mem w0 w is → RdN L w B es) : QV w0 is o e (.int .i64 (es.length : Int)) :=
  fun w ac M F => by
    subst ht
    have hx := F _ _ hx
    obtain ⟨xs, cl, hb, hp⟩ := hr w M
    have hl := numE_len hp
    simp at hl
    simp [execOp, hop, hx, resolve, invoke, builtin, Builtin.len_, run_underlying L.um, MapKept.run_getObj_map hb, hl, goInt, Sem.run_bind, Result.andThen]
end
end

section
section
variable {α : Type} [DecidableEq α]
def seenE (l : List (Ent α)) : List (Ent α) := l.foldl (fun s x => if x ∈ s then s else s ++ [x]) []
theorem seenE_snoc (l : List (Ent α)) (x : Ent α) : seenE (l ++ [x]) = if x ∈ seenE l then seenE l else seenE l ++ [x] := by
  unfold seenE; rw [List.foldl_append]; rfl
theorem seenE_pre : ∀ (l s : List (Ent α)), ∃ t, l.foldl (fun s x => if x ∈ s then s else s ++ [x]) s = s ++ t
  | [], s => ⟨[], by simp⟩
  | x :: l, s => by
    obtain ⟨t, ht⟩ := seenE_pre l (if x ∈ s then s else s ++ [x])
    rw [List.foldl_cons, ht]
    by_cases h : x ∈ s
    · rw [if_pos h]; exact ⟨t, rfl⟩
    · rw [if_neg h]; exact ⟨x :: t, by simp⟩
theorem seenE_take (es : List (Ent α)) (k : Nat) : ∃ t, seenE es = seenE (es.take k) ++ t := by
  obtain ⟨t, ht⟩ := seenE_pre (es.drop k) (seenE (es.take k))
  refine ⟨t, ?_⟩
  rw [← ht]; unfold seenE; rw [← List.foldl_append, List.take_append_drop]
theorem mem_seenE : ∀ (l : List (Ent α)) (x : Ent α) (s : List (Ent α)), x ∈ l.foldl (fun s x => if x ∈ s then s else s ++ [x]) s ↔ x ∈ s ∨ x ∈ l
  | [], x, s => by simp
  | y :: l, x, s => by
    rw [List.foldl_cons, mem_seenE l x]
    by_cases h : y ∈ s
    · rw [if_pos h, List.mem_cons]
      exact ⟨fun h' => h'.imp id .inr, fun h' => h'.elim .inl fun h' => h'.elim (fun e => .inl (e ▸ h)) .inr⟩
    · rw [if_neg h, List.mem_append, List.mem_singleton, List.mem_cons]
      exact ⟨fun h' => h'.elim (fun h' => h'.imp id .inl) fun h' => .inr (.inr h'), fun h' => h'.elim (fun h' => .inl (.inl h')) fun h' => h'.elim (fun e => .inl (.inr e)) .inr⟩
theorem mem_seenE0 {l : List (Ent α)} {x : Ent α} : x ∈ seenE l ↔ x ∈ l := by unfold seenE; rw [mem_seenE]; simp
end
/-- The number of an entry: the place at which it is new. -/
noncomputable def numE (es : List (Ent Int)) (e : Ent Int) : Int := posE (seenE es) e
noncomputable def clsE (es : List (Ent Int)) : List Int := tabTo (fun j => numE es (atE es (j : Int))) es.length
theorem posE_pre {s t : List (Ent Int)} {e : Ent Int} (h : e ∈ s) : posE (s ++ t) e = posE s e := by
  unfold posE
  rw [if_pos h, if_pos (List.mem_append_left _ h), List.idxOf_append, if_pos h]
theorem numE_old {es : List (Ent Int)} {k : Nat} {e : Ent Int} (h : e ∈ seenE (es.take k)) : numE es e = posE (seenE (es.take k)) e := by
  obtain ⟨t, ht⟩ := seenE_take es k
  unfold numE; rw [ht, posE_pre h]
theorem takeE_snoc {es : List (Ent Int)} {k : Nat} (hk : k < es.length) : es.take (k + 1) = es.take k ++ [atE es (k : Int)] := (takeE_succ hk).symm
theorem seenE_t {es : List (Ent Int)} {k : Nat} (hk : k < es.length) (h : atE es (k : Int) ∉ seenE (es.take k)) : seenE (es.take (k + 1)) = seenE (es.take k) ++ [atE es (k : Int)] := by rw [takeE_snoc hk, seenE_snoc, if_neg h]
theorem seenE_f {es : List (Ent Int)} {k : Nat} (hk : k < es.length) (h : atE es (k : Int) ∈ seenE (es.take k)) : seenE (es.take (k + 1)) = seenE (es.take k) := by rw [takeE_snoc hk, seenE_snoc, if_pos h]
theorem seenE_t2 {es : List (Ent Int)} {k : Nat} (hk : k < es.length) (h : atE es (k : Int) ∉ seenE (es.take k)) : seenE (es.take k) ++ [((atE es (k : Int)).1, (atE es (k : Int)).2.1, (atE es (k : Int)).2.2)] = seenE (es.take (k + 1)) := (seenE_t hk h).symm
theorem numE_new {es : List (Ent Int)} {k : Nat} (hk : k < es.length) (h : atE es (k : Int) ∉ seenE (es.take k)) : numE es (atE es (k : Int)) = ((seenE (es.take k)).length : Int) := by
  have hm : atE es (k : Int) ∈ seenE (es.take (k + 1)) := by rw [seenE_t hk h]; simp
  rw [numE_old hm, seenE_t hk h]
  unfold posE
  rw [if_pos (by simp), List.idxOf_append, if_neg h]
  simp
theorem numE_rng {es : List (Ent Int)} {k : Nat} {e : Ent Int} (h : e ∈ seenE (es.take k)) : 0 ≤ numE es e ∧ numE es e < ((seenE (es.take k)).length : Int) := by
  rw [numE_old h]; unfold posE; rw [if_pos h]
  have := List.idxOf_lt_length_of_mem h
  omega
theorem numE_inj {es : List (Ent Int)} {e f : Ent Int} (he : e ∈ es) (hf : f ∈ es) (h : numE es e = numE es f) : e = f := by
  have he := mem_seenE0.2 he; have hf := mem_seenE0.2 hf
  unfold numE posE at h
  rw [if_pos he, if_pos hf] at h
  have h : (seenE es).idxOf e = (seenE es).idxOf f := by omega
  have h1 := List.getElem_idxOf (List.idxOf_lt_length_of_mem he); have h2 := List.getElem_idxOf (List.idxOf_lt_length_of_mem hf)
  rw [← h1, ← h2]; simp only [h]
theorem clsE_len (es : List (Ent Int)) : (clsE es).length = es.length := tabTo_len _ _
theorem clsE_at {es : List (Ent Int)} {k : Nat} (h : k < es.length) : (clsE es).getD k 0 = numE es (atE es (k : Int)) := by rw [← at0_nat]; exact tabTo_at _ h
theorem clsE_seen (es : List (Ent Int)) : ∀ k, k ≤ es.length → seenOf ((clsE es).take k) = upTo 0 (seenE (es.take k)).length := by
  intro k
  induction k with
  | zero => intro _; simp [seenOf, seenE, upTo]
  | succ k ih =>
    intro hk
    have h := ih (by omega)
    rw [take_snoc (by rw [clsE_len]; omega), seenOf_snoc, h, clsE_at (by omega)]
    by_cases hm : atE es (k : Int) ∈ seenE (es.take k)
    · have hr := numE_rng hm
      rw [if_pos (mem_upTo hr.1 hr.2), seenE_f (by omega) hm]
    · rw [numE_new (by omega) hm, if_neg (not_mem_upTo (.inr (Int.le_refl _))), seenE_t (by omega) hm, List.length_append, ← upTo_succ]; rfl
theorem idx_upTo {m : Nat} {x : Int} (h0 : 0 ≤ x) (h1 : x < m) : ((upTo 0 m).idxOf x : Int) = x := by
  have hm := mem_upTo h0 h1
  have hl := List.idxOf_lt_length_of_mem hm
  have h := List.getElem_idxOf hl
  simp only [upTo, List.getElem_map, List.getElem_range] at h
  simp only [upTo]; omega
theorem clsE_proper (es : List (Ent Int)) : clsE es = clsOf (clsE es) := by
  refine List.ext_getElem (by rw [clsOf_len]) fun k h1 h2 => ?_
  rw [clsE_len] at h1
  have e1 : (clsE es)[k]'(by rw [clsE_len]; exact h1) = (clsE es).getD k 0 := by rw [List.getD_eq_getElem?_getD, List.getElem?_eq_getElem (by rw [clsE_len]; exact h1)]; rfl
  have e2 : (clsOf (clsE es))[k]'h2 = (clsOf (clsE es)).getD k 0 := by rw [List.getD_eq_getElem?_getD, List.getElem?_eq_getElem h2]; rfl
  rw [e1, e2, clsOf_getD (by rw [clsE_len]; exact h1), clsE_seen es k (by omega), clsE_at h1]
  by_cases hm : atE es (k : Int) ∈ seenE (es.take k)
  · have hr := numE_rng hm
    exact (idx_upTo hr.1 hr.2).symm
  · rw [numE_new h1 hm, List.idxOf_eq_length (not_mem_upTo (.inr (Int.le_refl _))), upTo_length]
theorem clsE_eq {es : List (Ent Int)} {i j : Nat} (hi : i < es.length) (hj : j < es.length) : (clsE es).getD i 0 = (clsE es).getD j 0 ↔ atE es (i : Int) = atE es (j : Int) := by
  rw [clsE_at hi, clsE_at hj]
  exact ⟨fun h => numE_inj (atE_mem hi) (atE_mem hj) h, fun h => by rw [h]⟩
theorem clsE_count (es : List (Ent Int)) : (lstL (clsE es) (nC (clsE es) (clsE es).length)).length = (seenE es).length := by
  rw [lstL_len]
  show (seenOf ((clsE es).take _)).length = _
  rw [clsE_len, clsE_seen es _ (Nat.le_refl _), upTo_length, List.take_length]
theorem seenE_le (es : List (Ent Int)) : ∀ k, k ≤ es.length → (seenE es).length ≤ (seenE (es.take k)).length + (es.length - k) := by
  intro k hk
  induction hd : es.length - k generalizing k with
  | zero => have : k = es.length := by omega
            subst this; rw [List.take_length]; omega
  | succ d ih =>
    have h := ih (k + 1) (by omega) (by omega)
    by_cases hm : atE es (k : Int) ∈ seenE (es.take k)
    · rw [seenE_f (by omega) hm] at h; omega
    · rw [seenE_t (by omega) hm, List.length_append] at h; simp at h; omega
theorem seenE_k (es : List (Ent Int)) : ∀ k, k ≤ es.length → (seenE (es.take k)).length ≤ k := by
  intro k
  induction k with
  | zero => intro _; simp [seenE]
  | succ k ih =>
    intro hk
    have h := ih (by omega)
    by_cases hm : atE es (k : Int) ∈ seenE (es.take k)
    · rw [seenE_f (by omega) hm]; omega
    · rw [seenE_t (by omega) hm, List.length_append]; simp; omega
theorem seenE_all {es : List (Ent Int)} : (seenE es).length = es.length ↔ ∀ a b : Nat, b < a → a < es.length → ¬ atE es (a : Int) = atE es (b : Int) := by
  constructor
  · intro h a b hb ha he
    have h1 := seenE_le es a (by omega); have h2 := seenE_le es (a + 1) (by omega); have h3 := seenE_k es a (by omega)
    have hm : atE es (a : Int) ∈ seenE (es.take a) := by
      rw [mem_seenE0, he]
      refine List.mem_take_iff_getElem.2 ⟨b, by omega, ?_⟩
      simp [atE, List.getD_eq_getElem?_getD, List.getElem?_eq_getElem (show b < es.length by omega)]
    rw [seenE_f ha hm] at h2; omega
  · intro h
    have : ∀ k, k ≤ es.length → (seenE (es.take k)).length = k := by
      intro k
      induction k with
      | zero => intro _; simp [seenE]
      | succ k ih =>
        intro hk
        have h1 := ih (by omega)
        have hm : atE es (k : Int) ∉ seenE (es.take k) := by
          rw [mem_seenE0]
          intro hm
          obtain ⟨b, hb, he⟩ := List.mem_take_iff_getElem.1 hm
          refine h k b (by omega) (by omega) ?_
          rw [← he]
          simp [atE, List.getD_eq_getElem?_getD, List.getElem?_eq_getElem (show b < es.length by omega)]
        rw [seenE_t (by omega) hm, List.length_append]; simp; omega
    have h2 := this es.length (Nat.le_refl _)
    rwa [List.take_length] at h2
def RetEn (W : World) (es : List (Ent Int)) (e : Ending) (w' : World) : Prop := ∃ v, e = .returned v ∧ OwnE lab_int v es w' (fun k => W.heap.size ≤ k) ∧ Below W.heap.size W w'
section
variable {w0 : World} {is : List Itm} {ops : Array Oper} {Q : Exit → Act → World → Prop} {o : Oper} {rest : List Oper} {N n m : Nat} {e : Env} {v : Value} {d : Nat} {K : Act → World → Prop} {f : FuncId} {fn : Func} {ags : Array Operand} {ts : Array TypeId} {vs : List Value}
theorem go_callEn {es : List (Ent Int)} (hd : o.dst = some d) (hN : Nat.blt d N = true) (hop : o.op = .call { callee := .value (.func f), args := ags, argTypes := ts }) (hfn : Try.prog.funcs[f]? = some fn) (hb : fn.body.isNone = false) (hn : (fn.name == "runtime.NumGoroutine") = false)
    (hargs : evoL e ags.toList = some vs) (hc : ∀ w, Mem w0 w is → Calls Try.prog f vs.toArray w (RetEn w es)) (hk : ∀ a cap, GK w0 (is ++ [ownEI lab_int (.slice a es.length cap) es]) N K ((d, .slice a es.length cap) :: e)) : GO w0 is N o e Q K := by
  intro w a M F
  refine go_call hd hN F hop hfn hb hn hargs (hc w M) fun e' w' hR => ?_
  obtain ⟨v, rfl, hO, hbl⟩ := hR
  obtain ⟨va, vc, rfl⟩ := ownE_form hO
  exact ⟨_, rfl, fun a F => hk va vc w' a (mem_new M hbl hO) F⟩
theorem mem_ownEO {w0 w : World} {is : List Itm} {n : Nat} {v : Value} {es : List (Ent Int)} (M : Mem w0 w is) (h : is[n]? = some (ownEI lab_int v es)) : OwnE lab_int v es w (fun k => w0.heap.size ≤ k) := by
  obtain ⟨S, hS, hb⟩ := mem_get M h
  exact (ownE_loc lab_int v es).keep (fun k _ hk => hS k hk) agree_refl hb
end
def fillE (φ : Nat → Ent Int) (n k : Nat) : List (Ent Int) := (List.range n).map fun j => if j < k then φ j else ent0
theorem fillE_zero (φ : Nat → Ent Int) (n : Nat) : List.replicate n ent0 = fillE φ n 0 := by
  refine List.ext_getElem (by simp [fillE]) fun j h1 h2 => by simp [fillE]
theorem fillE_len (φ : Nat → Ent Int) (n k : Nat) : (fillE φ n k).length = n := by simp [fillE]
theorem fillE_set (φ : Nat → Ent Int) {n k : Nat} (h : k < n) : (fillE φ n k).set ((k : Int)).toNat (φ k) = fillE φ n (k + 1) := by
  refine List.ext_getElem (by simp [fillE]) fun j h1 h2 => ?_
  simp only [fillE, List.getElem_set, List.getElem_map, List.getElem_range, Int.toNat_natCast]
  by_cases e : k = j
  · subst e; rw [if_pos rfl, if_pos (by omega)]
  · rw [if_neg e]
    by_cases hj : j < k
    · rw [if_pos hj, if_pos (by omega)]
    · rw [if_neg hj, if_neg (by omega)]
theorem fillE_end (φ : Nat → Ent Int) (n : Nat) : fillE φ n n = entsTo φ n := List.map_congr_left fun j hj => if_pos (List.mem_range.1 hj)

set_option maxHeartbeats 1000000 in
set_option maxRecDepth 100000 in
theorem partByE_any (w : World) (va : Value) (es : List (Ent Int)) (hE : RdE lab_int w va es) (hl : es.length ≤ 100000) :
    Calls Try.prog 135 #[va] w (RetL w (clsE es)) := by
  obtain ⟨aa, ac, rfl⟩ := lenV_E hE
  go_enter Try.func135, Try.ntmps135
  refine gc_enter (N := 39) rfl (look_cons (k := 0) rfl (look_nil _)) ?_
  refine gc_seq fun K1 hK1 => ?_
  refine gc_region ?_
  refine g_v (.free rfl) rfl rfl (qt_assign rfl rfl) ?_
  refine g_nil ?_
  refine gk_then (hK1 _ _ ?_)
  refine gc_seq fun K2 hK2 => ?_
  refine gc_region ?_
  refine g_op (.free rfl) fun K4 hK4 => ?_
  refine go_makeNum lab_int rfl rfl rfl ?_
  intro B3
  refine hK4 _ _ ?_
  refine g_v (.free rfl) rfl rfl (qt_assign rfl rfl) ?_
  refine g_nil ?_
  refine gk_then (hK2 _ _ ?_)
  refine gc_seq fun K5 hK5 => ?_
  refine gc_region ?_
  refine g_v (.free rfl) rfl rfl (qt_move rfl rfl) ?_
  refine g_v (.free rfl) rfl rfl (qt_len rfl rfl (lab_ul lab_int) (fun w M => lenV_E (mem_rdE M hE))) ?_
  refine g_op (.free rfl) fun K7 hK7 => ?_
  refine go_make1 rfl rfl rfl Try.underlying102 rfl rfl (by omega) ?_
  intro B6
  refine hK7 _ _ ?_
  refine g_v (.free rfl) rfl rfl (qt_assign rfl rfl) ?_
  refine g_nil ?_
  refine gk_then (hK5 _ _ ?_)
  refine gc_seq fun K8 hK8 => ?_
  refine gc_seq fun K9 hK9 => ?_
  refine gc_region ?_
  refine g_v (.free rfl) rfl rfl (qt_move rfl rfl) ?_
  refine g_v (.free rfl) rfl rfl (qt_len rfl rfl (lab_ul lab_int) (fun w M => lenV_E (mem_rdE M hE))) ?_
  refine g_v (.free rfl) rfl rfl (qt_move rfl rfl) ?_
  refine g_nil ?_
  refine gk_then (hK9 _ _ ?_)
  refine gc_block ?_
  rw [fillTo_zero (fun j => numE es (atE es (j : Int))) es.length]
  try simp only [List.nil_append, List.cons_append, List.append_assoc, List.set_cons_succ, List.set_cons_zero]
  refine gc_loop ([(0, _), (2, _), (3, _), (4, _), (13, _), (14, _)] : Env) (fun s : Nat => (fun (k : Nat) => ([(15, .int .i64 (k : Int))] : Env)) s) (fun s : Nat => (fun (k : Nat) => ([(0, numI lab_int B3 (seenE (es.take k))), (1, own1I (.slice (some ⟨B6, 0, none⟩) es.length es.length) (fillTo (fun j => numE es (atE es (j : Int))) es.length k))] : List (Nat × Itm))) s) (fun s : Nat => (fun (k : Nat) => k ≤ es.length) s) (fun s : Nat => (fun (k : Nat) => es.length - k) s) (0) (sub_cons rfl (sub_cons rfl (sub_cons rfl (sub_cons rfl (sub_cons rfl (sub_cons rfl (sub_cons rfl sub_nil))))))) rfl (Nat.zero_le _) ?_
  rintro k hinv KL10 hKL10
  simp only [updL, List.foldl_cons, List.foldl_nil, List.set_cons_succ, List.set_cons_zero, List.cons_append, List.nil_append] at hinv hKL10 ⊢
  have hk := hinv
  have hfl := fillTo_len (fun j => numE es (atE es (j : Int))) es.length k
  refine gc_seq fun K11 hK11 => ?_
  refine gc_region ?_
  refine g_v (.free rfl) rfl rfl (qt_lss rfl rfl rfl) ?_
  refine g_nil ?_
  refine gk_then (hK11 _ _ ?_)
  refine gc_seq fun K12 hK12 => ?_
  refine gc_cond rfl (fun hc0 => ?_) (fun hc0 => ?_)
  · try simp only [decide_eq_true_eq, decide_eq_false_iff_not, Bool.not_eq_true', Bool.not_eq_false', Bool.not_eq_eq_eq_not, Bool.not_true, Bool.not_false, ne_eq, Decidable.not_not, Classical.not_not] at hc0
    refine gc_skip ?_
    refine gk_then (hK12 _ _ ?_)
    refine gc_seq fun K13 hK13 => ?_
    refine gc_block ?_
    refine gc_seq fun K14 hK14 => ?_
    refine gc_region ?_
    refine g_v (.free rfl) rfl rfl (qt_move rfl rfl) ?_
    refine g_v (.free rfl) rfl rfl (qt_indexE lab_int rfl rfl rfl rfl (fun w M => lenA_E (mem_rdE M hE)) (by omega) (by omega)) ?_
    refine g_v (.free rfl) rfl rfl (qt_loadE lab_int rfl rfl rfl (fun w M => mem_rdE M hE) (by omega) (by omega)) ?_
    refine g_op (.free rfl) fun K16 hK16 => ?_
    refine go_alloc (z := (.agg #[.int .i64 0, .int .i64 0, .int .i64 0])) (cs := [.int .i64 0, .int .i64 0, .int .i64 0]) rfl rfl rfl (fun w => by kernel_rfl) rfl ?_
    intro B15
    refine hK16 _ _ ?_
    refine g_v (.free rfl) rfl rfl (qt_assign rfl rfl) ?_
    refine g_op (.free rfl) fun K17 hK17 => ?_
    refine go_storeS (n := 2) rfl rfl rfl rfl (by kernel_rfl) rfl rfl rfl ?_
    refine hK17 _ _ ?_
    refine g_nil ?_
    refine gk_then (hK14 _ _ ?_)
    refine gc_seq fun K18 hK18 => ?_
    refine gc_region ?_
    refine g_v (.free rfl) rfl rfl (qt_move rfl rfl) ?_
    refine g_v (.free rfl) rfl rfl (qt_loadS (n := 2) rfl rfl Try.underlying110 rfl (by kernel_rfl) rfl) ?_
    refine g_v (.free rfl) rfl rfl (qt_lookN2 lab_int rfl rfl rfl rfl (fun w M => mem_numN (n := 0) M rfl)) ?_
    refine g_v (.free rfl) rfl rfl (qt_move rfl rfl) ?_
    refine g_v (.free rfl) rfl rfl (qt_extract rfl rfl rfl) ?_
    refine g_v (.free rfl) rfl rfl (qt_extract rfl rfl rfl) ?_
    refine g_v (.free rfl) rfl rfl (qt_assign rfl rfl) ?_
    refine g_v (.free rfl) rfl rfl (qt_assign rfl rfl) ?_
    refine g_nil ?_
    refine gk_then (hK18 _ _ ?_)
    refine gc_seq fun K19 hK19 => ?_
    refine gc_seq fun K20 hK20 => ?_
    refine gc_region ?_
    refine g_v (.free rfl) rfl rfl (qt_move rfl rfl) ?_
    refine g_v (.free rfl) rfl rfl (qt_not rfl rfl) ?_
    refine g_nil ?_
    refine gk_then (hK20 _ _ ?_)
    refine gc_cond rfl (fun hc1 => ?_) (fun hc1 => ?_)
    · try simp only [decide_eq_true_eq, decide_eq_false_iff_not, Bool.not_eq_true', Bool.not_eq_false', Bool.not_eq_eq_eq_not, Bool.not_true, Bool.not_false, ne_eq, Decidable.not_not, Classical.not_not] at hc1
      refine gc_seq fun K21 hK21 => ?_
      refine gc_region ?_
      refine g_v (.free rfl) rfl rfl (qt_move rfl rfl) ?_
      refine g_v (.free rfl) rfl rfl (qt_lenN lab_int rfl rfl rfl (fun w M => mem_numN (n := 0) M rfl)) ?_
      refine g_v (.free rfl) rfl rfl (qt_assign rfl rfl) ?_
      refine g_nil ?_
      refine gk_then (hK21 _ _ ?_)
      refine gc_region ?_
      refine g_v (.free rfl) rfl rfl (qt_move rfl rfl) ?_
      refine g_v (.free rfl) rfl rfl (qt_loadS (n := 2) rfl rfl Try.underlying110 rfl (by kernel_rfl) rfl) ?_
      refine g_v (.free rfl) rfl rfl (qt_move rfl rfl) ?_
      refine g_op (.free rfl) fun K22 hK22 => ?_
      refine go_putN lab_int (n := 0) rfl rfl rfl rfl rfl rfl rfl (by assumption) (by simp) ?_
      refine hK22 _ _ ?_
      refine g_nil ?_
      refine gk_then (hK19 _ _ ?_)
      refine gc_region ?_
      refine g_v (.free rfl) rfl rfl (qt_move rfl rfl) ?_
      refine g_v (.free rfl) rfl rfl (qt_move rfl rfl) ?_
      refine g_v (.free rfl) rfl rfl (qt_move rfl rfl) ?_
      refine g_v (.free rfl) rfl rfl (qt_index rfl rfl rfl ulEP szEP (fun w M => lenA_own1 (n := 1) rfl M) (by omega) (by omega)) ?_
      refine g_op (.free rfl) fun K23 hK23 => ?_
      refine go_store1 (n := 1) rfl rfl rfl rfl (by kernel_rfl) rfl (by omega) (by omega) ?_
      refine hK23 _ _ ?_
      refine g_nil ?_
      refine gk_block ?_
      refine gk_then (hK13 _ _ ?_)
      refine gc_region ?_
      refine g_v (.free rfl) rfl rfl (qt_add rfl rfl rfl (by omega)) ?_
      refine g_v (.free rfl) rfl rfl (qt_move rfl rfl) ?_
      refine g_nil ?_
      rw [seenE_t2 (es := es) (k := k) (by omega) hc1, fillTo_set' (φ := fun j => numE es (atE es (j : Int))) (by omega) (numE_new (by omega) hc1)]
      refine gk_then (gk_take 2 ?_)
      refine gk_sub ?hs_24 (hKL10 (k + 1) ?hi_24 ?hm_24)
      case hs_24 => exact (sub_cons rfl (sub_cons rfl (sub_cons rfl (sub_cons rfl (sub_cons rfl (sub_cons rfl (sub_cons rfl sub_nil)))))))
      case hi_24 => omega
      case hm_24 => omega
    · try simp only [decide_eq_true_eq, decide_eq_false_iff_not, Bool.not_eq_true', Bool.not_eq_false', Bool.not_eq_eq_eq_not, Bool.not_true, Bool.not_false, ne_eq, Decidable.not_not, Classical.not_not] at hc1
      refine gc_skip ?_
      refine gk_then (hK19 _ _ ?_)
      refine gc_region ?_
      refine g_v (.free rfl) rfl rfl (qt_move rfl rfl) ?_
      refine g_v (.free rfl) rfl rfl (qt_move rfl rfl) ?_
      refine g_v (.free rfl) rfl rfl (qt_move rfl rfl) ?_
      refine g_v (.free rfl) rfl rfl (qt_index rfl rfl rfl ulEP szEP (fun w M => lenA_own1 (n := 1) rfl M) (by omega) (by omega)) ?_
      refine g_op (.free rfl) fun K25 hK25 => ?_
      refine go_store1 (n := 1) rfl rfl rfl rfl (by kernel_rfl) rfl (by omega) (by omega) ?_
      refine hK25 _ _ ?_
      refine g_nil ?_
      refine gk_block ?_
      refine gk_then (hK13 _ _ ?_)
      refine gc_region ?_
      refine g_v (.free rfl) rfl rfl (qt_add rfl rfl rfl (by omega)) ?_
      refine g_v (.free rfl) rfl rfl (qt_move rfl rfl) ?_
      refine g_nil ?_
      rw [fillTo_set' (φ := fun j => numE es (atE es (j : Int))) (by omega) (numE_old hc1), ← seenE_f (es := es) (k := k) (by omega) hc1]
      refine gk_then (gk_take 2 ?_)
      refine gk_sub ?hs_26 (hKL10 (k + 1) ?hi_26 ?hm_26)
      case hs_26 => exact (sub_cons rfl (sub_cons rfl (sub_cons rfl (sub_cons rfl (sub_cons rfl (sub_cons rfl (sub_cons rfl sub_nil)))))))
      case hi_26 => omega
      case hm_26 => omega
  · try simp only [decide_eq_true_eq, decide_eq_false_iff_not, Bool.not_eq_true', Bool.not_eq_false', Bool.not_eq_eq_eq_not, Bool.not_true, Bool.not_false, ne_eq, Decidable.not_not, Classical.not_not] at hc0
    refine gc_exit ?_
    refine gk_then_exit ?_
    refine gk_then_exit ?_
    refine gk_block_hit ?_
    refine gk_then (hK8 _ _ ?_)
    refine gc_seq fun K27 hK27 => ?_
    refine gc_region ?_
    refine g_v (.free rfl) rfl rfl (qt_move rfl rfl) ?_
    refine g_v (.free rfl) rfl rfl (qt_assign rfl rfl) ?_
    refine g_nil ?_
    refine gk_then (hK27 _ _ ?_)
    refine gc_ret ?_
    refine ret_1 rfl rfl  (fun w M => ?_)
    obtain rfl : k = es.length := by omega
    rw [fillTo_end] at M
    exact ⟨_, rfl, mem_own1 (n := 1) M rfl, M.1⟩
end

section
def plF (F : Fct) (i : Nat) : Ent Int := (at0 F.S.s (i : Int), at0 F.S.t (i : Int), at0 F.a (i : Int))
def plE (F : Fct) : List (Ent Int) := entsTo (plF F) F.a.length
theorem plE_len (F : Fct) : (plE F).length = F.a.length := entsTo_len _ _
theorem plE_at {F : Fct} {k : Nat} (h : k < F.a.length) : atE (plE F) (k : Int) = plF F k := entsTo_at _ h
def sameL (F : Fct) (a b : Nat) : Prop := (at0 F.S.s (a : Int) = at0 F.S.s (b : Int) ∧ at0 F.S.t (a : Int) = at0 F.S.t (b : Int)) ∧ at0 F.a (a : Int) = at0 F.a (b : Int)
theorem sameL_iff {F : Fct} {a b : Nat} (ha : a < F.a.length) (hb : b < F.a.length) : atE (plE F) (a : Int) = atE (plE F) (b : Int) ↔ sameL F a b := by
  rw [plE_at ha, plE_at hb]
  unfold plF sameL
  constructor
  · intro h
    have h1 := congrArg (fun e => e.1) h; have h2 := congrArg (fun e => e.2.1) h; have h3 := congrArg (fun e => e.2.2) h
    exact ⟨⟨h1, h2⟩, h3⟩
  · rintro ⟨⟨h1, h2⟩, h3⟩; rw [h1, h2, h3]
def faithP (F : Fct) : Prop := ∀ a b : Nat, b < a → a < F.a.length → ¬ sameL F a b
theorem faith_iff {F : Fct} : (lstL (clsE (plE F)) (nC (clsE (plE F)) (clsE (plE F)).length)).length = F.a.length ↔ faithP F := by
  rw [clsE_count, ← plE_len F, seenE_all]
  constructor
  · intro h a b hb ha hs
    exact h a b hb (by rw [plE_len]; exact ha) ((sameL_iff ha (by omega)).2 hs)
  · intro h a b hb ha he
    rw [plE_len] at ha
    exact h a b hb ha ((sameL_iff ha (by omega)).1 he)
noncomputable def fIsFaithful (F : Fct) : Bool × Int := (askB F (bP (faithP F)), fctErr F)
noncomputable def fKernelCongruence (F : Fct) : List Int × Int := (askL F (clsE (plE F)), fctErr F)
noncomputable def krow (P : Nat → Nat → Prop) (i b : Nat) : List (List Int) := ((List.range b).filter fun (j : Nat) => bP (P i j)).map fun (j : Nat) => [((j : Nat) : Int), ((i : Nat) : Int)]
noncomputable def kpL (P : Nat → Nat → Prop) (a b : Nat) : List (List Int) := (List.range a).flatMap (fun i => krow P i i) ++ krow P a b
theorem kpL_t {P : Nat → Nat → Prop} {a b : Nat} (h : P a b) : kpL P a b ++ [[(b : Int), (a : Int)]] = kpL P a (b + 1) := by simp [kpL, krow, List.range_succ, bP_t h]
theorem kpL_f {P : Nat → Nat → Prop} {a b : Nat} (h : ¬ P a b) : kpL P a b = kpL P a (b + 1) := by simp [kpL, krow, List.range_succ, bP_f h]
theorem kpL_row (P : Nat → Nat → Prop) (a : Nat) : kpL P a a = kpL P (a + 1) 0 := by simp [kpL, krow, List.range_succ]
theorem kpL_zero (P : Nat → Nat → Prop) : kpL P 0 0 = [] := by simp [kpL, krow]
theorem krow_len (P : Nat → Nat → Prop) (i b : Nat) : (krow P i b).length ≤ b := by
  unfold krow; rw [List.length_map]
  have := List.length_filter_le (fun j => bP (P i j)) (List.range b); simpa using this
theorem kpL_len (P : Nat → Nat → Prop) : ∀ {a b : Nat}, a ≤ 40 → b ≤ 40 → (kpL P a b).length ≤ a * 40 + b := by
  intro a b ha hb
  unfold kpL
  rw [List.length_append]
  have h2 := krow_len P a b
  have h1 : ∀ k, k ≤ 40 → ((List.range k).flatMap (fun i => krow P i i)).length ≤ k * 40 := by
    intro k
    induction k with
    | zero => intro _; simp
    | succ k ih =>
      intro hk
      have := ih (by omega); have h3 := krow_len P k k
      have e : ([k].flatMap (fun i => krow P i i)).length = (krow P k k).length := by simp
      rw [List.range_succ, List.flatMap_append, List.length_append, Nat.succ_mul, e]; omega
  have := h1 a ha; omega
theorem kpL_mem {P : Nat → Nat → Prop} {n : Nat} {q : List Int} : q ∈ kpL P n 0 ↔ ∃ i j, i < n ∧ j < i ∧ P i j ∧ q = [(j : Int), (i : Int)] := by
  simp only [kpL, krow, List.range_zero, List.filter_nil, List.map_nil, List.append_nil, List.mem_flatMap, List.mem_range, List.mem_map, List.mem_filter]
  constructor
  · rintro ⟨i, hi, j, ⟨hj, hp⟩, rfl⟩; exact ⟨i, j, hi, hj, bP_iff.1 hp, rfl⟩
  · rintro ⟨i, j, hi, hj, hp, rfl⟩; exact ⟨i, hi, j, ⟨hj, bP_t hp⟩, rfl⟩
theorem kpL_pair {P : Nat → Nat → Prop} {n : Nat} : ∀ q ∈ kpL P n 0, PairP n q := by
  intro q hq
  obtain ⟨i, j, hi, hj, _, rfl⟩ := kpL_mem.1 hq
  refine ⟨rfl, fun x hx => ?_⟩
  rcases List.mem_cons.1 hx with rfl | hx
  · omega
  · rw [List.mem_singleton.1 hx]; omega
theorem ker_join {F : Fct} : clsOf (specL F.a.length (kpL (sameL F) F.a.length 0)) = clsE (plE F) := by
  have hl : (clsE (plE F)).length = F.a.length := by rw [clsE_len, plE_len]
  refine cls_self hl (clsE_proper _) fun i j hi hj => ?_
  constructor
  · intro h
    refine relL_univ (r := fun i j => (clsE (plE F)).getD i 0 = (clsE (plE F)).getD j 0) kpL_pair ⟨fun _ => rfl, fun h => h.symm, fun h h' => h.trans h'⟩ (fun q hq => ?_) hi hj h
    obtain ⟨a, b, ha, hb, hp, rfl⟩ := kpL_mem.1 hq
    show (clsE (plE F)).getD ((b : Int)).toNat 0 = (clsE (plE F)).getD ((a : Int)).toNat 0
    rw [Int.toNat_natCast, Int.toNat_natCast, clsE_eq (by rw [plE_len]; omega) (by rw [plE_len]; omega)]
    exact ((sameL_iff ha (by omega)).2 hp).symm
  · intro h
    rw [clsE_eq (by rw [plE_len]; omega) (by rw [plE_len]; omega)] at h
    rcases Nat.lt_trichotomy i j with hij | hij | hij
    · have hp := (sameL_iff (F := F) hj hi).1 h.symm
      have := relL_has (n := F.a.length) kpL_pair (kpL_mem.2 ⟨j, i, hj, hij, hp, rfl⟩)
      simpa [pa, pb] using this
    · subst hij; rfl
    · have hp := (sameL_iff (F := F) hi hj).1 h
      have := relL_has (n := F.a.length) kpL_pair (kpL_mem.2 ⟨i, j, hi, hij, hp, rfl⟩)
      exact ((relL_eqv _ _).symm (by simpa [pa, pb] using this))


theorem fillE_st {F : Fct} {k : Nat} (h : k < F.a.length) : (fillE (plF F) F.a.length k).set ((k : Int)).toNat (at0 F.S.s (k : Int), at0 F.S.t (k : Int), at0 F.a (k : Int)) = fillE (plF F) F.a.length (k + 1) := fillE_set (plF F) h

set_option maxHeartbeats 1000000 in
set_option maxRecDepth 100000 in
theorem placed_any (w : World) (v : Value) (F : Fct) (h : RdF w v F) (hI : fIsFunctor F = true) :
    Calls Try.prog 121 #[v] w (RetEn w (plE F)) := by
  have h0 := h
  obtain ⟨vx1, vx2, vx3, vx4, vx5, vx6, vx7, vx8, vx9, vx10, vk1, vk2, vk3, vk4, vk5, vk6, vk7, vk8, vk9, vk10, rfl, h1, h2, h3, h4, h5, h6, h7, h8, h9, h10⟩ := h.lists
  have hF := isf_of hI
  have hS := (isCat_of hF.cs).toShapeP
  have hn40 := hS.n40; have htl := hS.tl; have la := hF.la
  go_enter Try.func121, Try.ntmps121
  refine gc_enter (N := 29) rfl (look_cons (k := 0) rfl (look_nil _)) ?_
  refine gc_seq fun K1 hK1 => ?_
  refine gc_region ?_
  refine g_op (.free rfl) fun K3 hK3 => ?_
  refine go_box rfl rfl rfl rfl rfl ?_
  intro B2
  refine hK3 _ _ ?_
  refine g_v (.free rfl) rfl rfl (qt_assign rfl rfl) ?_
  refine g_nil ?_
  refine gk_then (hK1 _ _ ?_)
  refine gc_seq fun K4 hK4 => ?_
  refine gc_region ?_
  refine g_v (.free rfl) rfl rfl (qt_field (z := 0) (off := 11) rfl rfl Try.underlying32 rfl (by kernel_rfl) rfl) ?_
  refine g_v (.free rfl) rfl rfl (qt_loadB (n := 0) rfl rfl Try.underlying22 rfl rfl rfl) ?_
  refine g_v (.free rfl) rfl rfl (qt_len rfl rfl ulE1 (fun w M => lenV_rd h10)) ?_
  refine g_op (.free rfl) fun K6 hK6 => ?_
  refine go_makeE rfl rfl rfl rfl rfl rfl (by omega) ?_
  intro B5
  refine hK6 _ _ ?_
  refine g_v (.free rfl) rfl rfl (qt_assign rfl rfl) ?_
  refine g_nil ?_
  refine gk_then (hK4 _ _ ?_)
  refine gc_seq fun K7 hK7 => ?_
  refine gc_seq fun K8 hK8 => ?_
  refine gc_region ?_
  refine g_v (.free rfl) rfl rfl (qt_field (z := 0) (off := 11) rfl rfl Try.underlying32 rfl (by kernel_rfl) rfl) ?_
  refine g_v (.free rfl) rfl rfl (qt_loadB (n := 0) rfl rfl Try.underlying22 rfl rfl rfl) ?_
  refine g_v (.free rfl) rfl rfl (qt_len rfl rfl ulE1 (fun w M => lenV_rd h10)) ?_
  refine g_v (.free rfl) rfl rfl (qt_move rfl rfl) ?_
  refine g_nil ?_
  refine gk_then (hK8 _ _ ?_)
  refine gc_block ?_
  rw [fillE_zero (plF F) F.a.length]
  try simp only [List.nil_append, List.cons_append, List.append_assoc, List.set_cons_succ, List.set_cons_zero]
  refine gc_loop ([(0, _), (1, _), (2, _), (3, _), (11, _), (12, _)] : Env) (fun s : Nat => (fun (k : Nat) => ([(13, .int .i64 (k : Int))] : Env)) s) (fun s : Nat => (fun (k : Nat) => ([(1, ownEI lab_int (.slice (some ⟨B5, 0, none⟩) F.a.length F.a.length) (fillE (plF F) F.a.length k))] : List (Nat × Itm))) s) (fun s : Nat => (fun (k : Nat) => k ≤ F.a.length) s) (fun s : Nat => (fun (k : Nat) => F.a.length - k) s) (0) (sub_cons rfl (sub_cons rfl (sub_cons rfl (sub_cons rfl (sub_cons rfl (sub_cons rfl (sub_cons rfl sub_nil))))))) rfl (Nat.zero_le _) ?_
  rintro k hinv KL9 hKL9
  simp only [updL, List.foldl_cons, List.foldl_nil, List.set_cons_succ, List.set_cons_zero, List.cons_append, List.nil_append] at hinv hKL9 ⊢
  have hk := hinv
  have hfl := fillE_len (plF F) F.a.length k
  refine gc_seq fun K10 hK10 => ?_
  refine gc_region ?_
  refine g_v (.free rfl) rfl rfl (qt_lss rfl rfl rfl) ?_
  refine g_nil ?_
  refine gk_then (hK10 _ _ ?_)
  refine gc_seq fun K11 hK11 => ?_
  refine gc_cond rfl (fun hc0 => ?_) (fun hc0 => ?_)
  · try simp only [decide_eq_true_eq, decide_eq_false_iff_not, Bool.not_eq_true', Bool.not_eq_false', Bool.not_eq_eq_eq_not, Bool.not_true, Bool.not_false, ne_eq, Decidable.not_not, Classical.not_not] at hc0
    refine gc_skip ?_
    refine gk_then (hK11 _ _ ?_)
    refine gc_seq fun K12 hK12 => ?_
    refine gc_block ?_
    refine gc_seq fun K13 hK13 => ?_
    refine gc_region ?_
    refine g_v (.free rfl) rfl rfl (qt_move rfl rfl) ?_
    refine g_v (.free rfl) rfl rfl (qt_index rfl rfl rfl ulE1 szE1 (fun w M => lenA_rd h10) (by omega) (by omega)) ?_
    refine g_v (.free rfl) rfl rfl (qt_load1 rfl rfl Try.underlying2 rfl (fun w M => mem_rd M h10) (by omega) (by omega)) ?_
    refine g_v (.free rfl) rfl rfl (qt_assign rfl rfl) ?_
    refine g_v (.free rfl) rfl rfl (qt_assign rfl rfl) ?_
    refine g_nil ?_
    refine gk_then (hK13 _ _ ?_)
    refine gc_region ?_
    refine g_v (.free rfl) rfl rfl (qt_move rfl rfl) ?_
    refine g_v (.free rfl) rfl rfl (qt_move rfl rfl) ?_
    refine g_v (.free rfl) rfl rfl (qt_field (z := 4) (off := 0) rfl rfl Try.underlying32 rfl (by kernel_rfl) rfl) ?_
    refine g_v (.free rfl) rfl rfl (qt_loadP (n := 0) (z := 5) rfl rfl Try.underlying30 rfl (by kernel_rfl) rfl (by first | decide | exact Nat.le_refl _ | simp)) ?_
    refine g_v (.free rfl) rfl rfl (qt_move rfl rfl) ?_
    refine g_q (.free rfl) rfl rfl (qt_call rfl Try.func104 rfl (by decide) rfl (fun w M => ends_any w _ _ _ (rdC_mk (mem_rd M h1) (mem_rd M h2) (mem_rd M h3) (mem_rd2 M h4)) (by first | assumption | omega) (by first | assumption | omega) (by first | assumption | omega))) ?_
    refine g_v (.free rfl) rfl rfl (qt_move rfl rfl) ?_
    refine g_v (.free rfl) rfl rfl (qt_build rfl rfl bt_pairOf_arrowEnds_int64) ?_
    refine g_v (.free rfl) rfl rfl (qt_indexE lab_int rfl rfl rfl rfl (fun w M => lenA_E (mem_ownE (n := 1) M rfl)) (by omega) (by omega)) ?_
    refine g_op (.free rfl) fun K14 hK14 => ?_
    refine go_storeE (n := 1) rfl rfl rfl rfl rfl rfl (by omega) (by omega) ?_
    refine hK14 _ _ ?_
    refine g_nil ?_
    refine gk_block ?_
    refine gk_then (hK12 _ _ ?_)
    refine gc_region ?_
    refine g_v (.free rfl) rfl rfl (qt_add rfl rfl rfl (by omega)) ?_
    refine g_v (.free rfl) rfl rfl (qt_move rfl rfl) ?_
    refine g_nil ?_
    rw [fillE_st (F := F) (k := k) (by omega)]
    refine gk_then (gk_take 2 ?_)
    refine gk_sub ?hs_15 (hKL9 (k + 1) ?hi_15 ?hm_15)
    case hs_15 => exact (sub_cons rfl (sub_cons rfl (sub_cons rfl (sub_cons rfl (sub_cons rfl (sub_cons rfl (sub_cons rfl sub_nil)))))))
    case hi_15 => omega
    case hm_15 => omega
  · try simp only [decide_eq_true_eq, decide_eq_false_iff_not, Bool.not_eq_true', Bool.not_eq_false', Bool.not_eq_eq_eq_not, Bool.not_true, Bool.not_false, ne_eq, Decidable.not_not, Classical.not_not] at hc0
    refine gc_exit ?_
    refine gk_then_exit ?_
    refine gk_then_exit ?_
    refine gk_block_hit ?_
    refine gk_then (hK7 _ _ ?_)
    refine gc_seq fun K16 hK16 => ?_
    refine gc_region ?_
    refine g_v (.free rfl) rfl rfl (qt_move rfl rfl) ?_
    refine g_v (.free rfl) rfl rfl (qt_assign rfl rfl) ?_
    refine g_nil ?_
    refine gk_then (hK16 _ _ ?_)
    refine gc_ret ?_
    refine ret_1 rfl rfl  (fun w M => ?_)
    obtain rfl : k = F.a.length := by omega
    rw [fillE_end] at M
    have hO := mem_ownEO (n := 1) M rfl
    refine ⟨_, rfl, ?_, M.1⟩
    show OwnE lab_int _ (entsTo (plF F) F.a.length) _ _
    exact hO

set_option maxHeartbeats 1000000 in
set_option maxRecDepth 100000 in
theorem kernelF_any (w : World) (v : Value) (F : Fct) (h : RdF w v F) (hI : fIsFunctor F = true) :
    Calls Try.prog 97 #[v] w (RetL w (clsE (plE F))) := by
  have h0 := h
  obtain ⟨vx1, vx2, vx3, vx4, vx5, vx6, vx7, vx8, vx9, vx10, vk1, vk2, vk3, vk4, vk5, vk6, vk7, vk8, vk9, vk10, rfl, h1, h2, h3, h4, h5, h6, h7, h8, h9, h10⟩ := h.lists
  have hF := isf_of hI
  have hS := (isCat_of hF.cs).toShapeP
  have hn40 := hS.n40; have htl := hS.tl; have la := hF.la
  go_enter Try.func97, Try.ntmps97
  refine gc_enter (N := 6) rfl (look_cons (k := 0) rfl (look_nil _)) ?_
  refine gc_seq fun K1 hK1 => ?_
  refine gc_region ?_
  refine g_op (.free rfl) fun K3 hK3 => ?_
  refine go_box rfl rfl rfl rfl rfl ?_
  intro B2
  refine hK3 _ _ ?_
  refine g_v (.free rfl) rfl rfl (qt_assign rfl rfl) ?_
  refine g_nil ?_
  refine gk_then (hK1 _ _ ?_)
  refine gc_seq fun K4 hK4 => ?_
  refine gc_region ?_
  refine g_v (.free rfl) rfl rfl (qt_loadS (n := 0) rfl rfl Try.underlying32 rfl (by kernel_rfl) rfl) ?_
  refine g_op (.free rfl) fun K6 hK6 => ?_
  refine go_callEn rfl rfl rfl Try.func121 rfl (by decide) rfl (fun w M => placed_any w _ _ (mem_rdF M h0) (by first | assumption | omega)) ?_
  intro va5 vc5
  refine hK6 _ _ ?_
  refine g_op (.free rfl) fun K8 hK8 => ?_
  refine go_callL rfl rfl rfl Try.func135 rfl (by decide) rfl (fun w M => partByE_any w (_) (plE F) (mem_ownE (n := 1) M rfl) (by rw [plE_len]; omega)) ?_
  intro va7 vc7
  refine hK8 _ _ ?_
  refine g_v (.free rfl) rfl rfl (qt_assign rfl rfl) ?_
  refine g_nil ?_
  refine gk_then (hK4 _ _ ?_)
  refine gc_ret ?_
  refine ret_1 rfl rfl  (fun w M => ?_)
  exact ⟨_, rfl, mem_own1 (n := 2) M rfl, M.1⟩

set_option maxHeartbeats 1000000 in
set_option maxRecDepth 100000 in
theorem isFaithF_any (w : World) (v : Value) (F : Fct) (h : RdF w v F) (hI : fIsFunctor F = true) :
    Calls Try.prog 81 #[v] w (RetB w (bP (faithP F))) := by
  have h0 := h
  obtain ⟨vx1, vx2, vx3, vx4, vx5, vx6, vx7, vx8, vx9, vx10, vk1, vk2, vk3, vk4, vk5, vk6, vk7, vk8, vk9, vk10, rfl, h1, h2, h3, h4, h5, h6, h7, h8, h9, h10⟩ := h.lists
  have hF := isf_of hI
  have hS := (isCat_of hF.cs).toShapeP
  have hn40 := hS.n40; have htl := hS.tl; have la := hF.la
  go_enter Try.func81, Try.ntmps81
  refine gc_enter (N := 11) rfl (look_cons (k := 0) rfl (look_nil _)) ?_
  refine gc_seq fun K1 hK1 => ?_
  refine gc_region ?_
  refine g_op (.free rfl) fun K3 hK3 => ?_
  refine go_box rfl rfl rfl rfl rfl ?_
  intro B2
  refine hK3 _ _ ?_
  refine g_v (.free rfl) rfl rfl (qt_assign rfl rfl) ?_
  refine g_nil ?_
  refine gk_then (hK1 _ _ ?_)
  refine gc_seq fun K4 hK4 => ?_
  try simp only [List.nil_append, List.cons_append, List.append_assoc, List.set_cons_succ, List.set_cons_zero]
  refine ga_start _ (fun w M => M) ?_
  refine ga_v 0 rfl (by kernel_rfl) (by kernel_rfl) (by kernel_rfl) (.free rfl) rfl rfl (qt_loadS (n := 0) rfl rfl Try.underlying32 rfl (by kernel_rfl) rfl) (fun _ _ _ h => h) ?_
  refine ga_v 4 rfl (by kernel_rfl) (by kernel_rfl) (by kernel_rfl) (.free rfl) rfl rfl (qt_field (z := 0) (off := 11) rfl rfl Try.underlying32 rfl (by kernel_rfl) rfl) (fun _ _ _ h => h) ?_
  refine ga_v 5 rfl (by kernel_rfl) (by kernel_rfl) (by kernel_rfl) (.free rfl) rfl rfl (qt_loadB (n := 0) rfl rfl Try.underlying22 rfl rfl rfl) (fun _ _ _ h => h) ?_
  refine ga_v 6 rfl (by kernel_rfl) (by kernel_rfl) (by kernel_rfl) (.free rfl) rfl rfl (qt_len rfl rfl ulE1 (fun w M => lenV_rd h10)) (fun _ _ _ h => h) ?_
  refine ga_op 1 (by kernel_rfl) rfl (.free rfl) fun K6 hK6 => ?_
  refine go_callL rfl rfl rfl Try.func97 rfl (by decide) rfl (fun w M => kernelF_any w _ _ (mem_rdF M h0) (by first | assumption | omega)) ?_
  intro va5 vc5
  refine hK6 _ _ (fun w M => (mem_take 1 M :)) ?_
  refine ga_op 2 (by kernel_rfl) rfl (.free rfl) fun K8 hK8 => ?_
  refine go_callL rfl rfl rfl Try.func118 rfl (by decide) rfl (fun w M => leastsP_any w _ _ ((mem_own1 (n := 1) M rfl).rd) (clsE_proper _)) ?_
  intro va7 vc7
  refine hK8 _ _ (fun w M => (mem_take 1 M :)) ?_
  refine ga_op 3 (by kernel_rfl) rfl (.free rfl) fun K9 hK9 => ?_
  refine go_v rfl rfl (qt_len rfl rfl ulE1 (fun w M => lenV_own1 (n := 2) rfl M)) ?_
  refine hK9 _ _ (fun w M => (mem_take 1 M :)) ?_
  refine ga_v 7 rfl (by kernel_rfl) (by kernel_rfl) (by kernel_rfl) (.free rfl) rfl rfl (qt_eql rfl rfl rfl) (fun _ _ _ h => h) ?_
  refine ga_v 8 rfl (by kernel_rfl) (by kernel_rfl) (by kernel_rfl) (.free rfl) rfl rfl (qt_assign rfl rfl) (fun _ _ _ h => h) ?_
  refine ga_done (by kernel_rfl) ?_
  refine gk_then (hK4 _ _ ?_)
  refine gc_ret ?_
  refine ret_1 rfl rfl  (fun w M => ?_)
  rw [show bP (faithP F) = decide (((lstL (clsE (plE F)) (nC (clsE (plE F)) (clsE (plE F)).length)).length : Int) = (F.a.length : Int)) from by rw [← bP_dec]; exact bP_congr (faith_iff.symm.trans ⟨fun hq => by rw [hq], fun hq => by omega⟩)]; exact ⟨rfl, M.1⟩

set_option maxHeartbeats 1000000 in
set_option maxRecDepth 100000 in
theorem specFaith_any (w : World) (v : Value) (F : Fct) (h : RdF w v F) (hI : fIsFunctor F = true) :
    Calls Try.prog 79 #[v] w (RetB w (bP (faithP F))) := by
  have h0 := h
  obtain ⟨vx1, vx2, vx3, vx4, vx5, vx6, vx7, vx8, vx9, vx10, vk1, vk2, vk3, vk4, vk5, vk6, vk7, vk8, vk9, vk10, rfl, h1, h2, h3, h4, h5, h6, h7, h8, h9, h10⟩ := h.lists
  have hF := isf_of hI
  have hS := (isCat_of hF.cs).toShapeP
  have hn40 := hS.n40; have htl := hS.tl; have la := hF.la
  go_enter Try.func79, Try.ntmps79
  refine gc_enter (N := 35) rfl (look_cons (k := 0) rfl (look_nil _)) ?_
  refine gc_seq fun K1 hK1 => ?_
  refine gc_region ?_
  refine g_op (.free rfl) fun K3 hK3 => ?_
  refine go_box rfl rfl rfl rfl rfl ?_
  intro B2
  refine hK3 _ _ ?_
  refine g_v (.free rfl) rfl rfl (qt_assign rfl rfl) ?_
  refine g_nil ?_
  refine gk_then (hK1 _ _ ?_)
  refine gc_seq fun K4 hK4 => ?_
  refine gc_seq fun K5 hK5 => ?_
  refine gc_region ?_
  refine g_v (.free rfl) rfl rfl (qt_assign rfl rfl) ?_
  refine g_nil ?_
  refine gk_then (hK5 _ _ ?_)
  refine gc_block ?_
  try simp only [List.nil_append, List.cons_append, List.append_assoc, List.set_cons_succ, List.set_cons_zero]
  refine gc_loop ([(0, _), (1, _)] : Env) (fun s : Nat => (fun (k : Nat) => ([(3, .int .i64 (k : Int))] : Env)) s) (fun s : Nat => (fun (k : Nat) => ([] : List (Nat × Itm))) s) (fun s : Nat => (fun (k : Nat) => k ≤ F.a.length ∧ ∀ j : Nat, j < k → ∀ b : Nat, b < j → ¬ sameL F j b) s) (fun s : Nat => (fun (k : Nat) => F.a.length - k) s) (0) (sub_cons rfl (sub_cons rfl (sub_cons rfl sub_nil))) rfl ⟨Nat.zero_le _, fun j hj => absurd hj (by omega)⟩ ?_
  rintro k hinv KL6 hKL6
  simp only [updL, List.foldl_cons, List.foldl_nil, List.set_cons_succ, List.set_cons_zero, List.cons_append, List.nil_append] at hinv hKL6 ⊢
  obtain ⟨hk, hj⟩ := hinv
  refine gc_seq fun K7 hK7 => ?_
  refine gc_seq fun K8 hK8 => ?_
  refine gc_region ?_
  refine g_v (.free rfl) rfl rfl (qt_move rfl rfl) ?_
  refine g_v (.free rfl) rfl rfl (qt_field (z := 0) (off := 11) rfl rfl Try.underlying32 rfl (by kernel_rfl) rfl) ?_
  refine g_v (.free rfl) rfl rfl (qt_loadB (n := 0) rfl rfl Try.underlying22 rfl rfl rfl) ?_
  refine g_v (.free rfl) rfl rfl (qt_len rfl rfl ulE1 (fun w M => lenV_rd h10)) ?_
  refine g_v (.free rfl) rfl rfl (qt_lss rfl rfl rfl) ?_
  refine g_nil ?_
  refine gk_then (hK8 _ _ ?_)
  refine gc_cond rfl (fun hc0 => ?_) (fun hc0 => ?_)
  · try simp only [decide_eq_true_eq, decide_eq_false_iff_not, Bool.not_eq_true', Bool.not_eq_false', Bool.not_eq_eq_eq_not, Bool.not_true, Bool.not_false, ne_eq, Decidable.not_not, Classical.not_not] at hc0
    refine gc_skip ?_
    refine gk_then (hK7 _ _ ?_)
    refine gc_seq fun K9 hK9 => ?_
    refine gc_block ?_
    refine gc_seq fun K10 hK10 => ?_
    refine gc_region ?_
    refine g_v (.free rfl) rfl rfl (qt_assign rfl rfl) ?_
    refine g_nil ?_
    refine gk_then (hK10 _ _ ?_)
    refine gc_block ?_
    try simp only [List.nil_append, List.cons_append, List.append_assoc, List.set_cons_succ, List.set_cons_zero]
    refine gc_loop ([(0, _), (1, _), (3, _), (9, _)] : Env) (fun s : Nat => (fun (g : Nat) => ([(4, .int .i64 (g : Int))] : Env)) s) (fun s : Nat => (fun (g : Nat) => ([] : List (Nat × Itm))) s) (fun s : Nat => (fun (g : Nat) => g ≤ k ∧ ∀ b : Nat, b < g → ¬ sameL F k b) s) (fun s : Nat => (fun (g : Nat) => k - g) s) (0) (sub_cons rfl (sub_cons rfl (sub_cons rfl (sub_cons rfl (sub_cons rfl sub_nil))))) rfl ⟨Nat.zero_le _, fun j hj => absurd hj (by omega)⟩ ?_
    rintro g hinv KL11 hKL11
    simp only [updL, List.foldl_cons, List.foldl_nil, List.set_cons_succ, List.set_cons_zero, List.cons_append, List.nil_append] at hinv hKL11 ⊢
    obtain ⟨hg, hi⟩ := hinv
    refine gc_seq fun K12 hK12 => ?_
    refine gc_seq fun K13 hK13 => ?_
    refine gc_region ?_
    refine g_v (.free rfl) rfl rfl (qt_move rfl rfl) ?_
    refine g_v (.free rfl) rfl rfl (qt_move rfl rfl) ?_
    refine g_v (.free rfl) rfl rfl (qt_lss rfl rfl rfl) ?_
    refine g_nil ?_
    refine gk_then (hK13 _ _ ?_)
    refine gc_cond rfl (fun hc1 => ?_) (fun hc1 => ?_)
    · try simp only [decide_eq_true_eq, decide_eq_false_iff_not, Bool.not_eq_true', Bool.not_eq_false', Bool.not_eq_eq_eq_not, Bool.not_true, Bool.not_false, ne_eq, Decidable.not_not, Classical.not_not] at hc1
      refine gc_skip ?_
      refine gk_then (hK12 _ _ ?_)
      refine gc_seq fun K14 hK14 => ?_
      refine gc_block ?_
      refine gc_seq fun K15 hK15 => ?_
      refine gc_draw (by kernel_rfl) ?_
      refine gd_v (.free rfl) rfl rfl (qt_field (z := 4) (off := 0) rfl rfl Try.underlying32 rfl (by kernel_rfl) rfl) ?_
      refine gd_v (.free rfl) rfl rfl (qt_loadP (n := 0) (z := 5) rfl rfl Try.underlying30 rfl (by kernel_rfl) rfl (by first | decide | exact Nat.le_refl _ | simp)) ?_
      refine gd_v (.free rfl) rfl rfl (qt_move rfl rfl) ?_
      refine gd_v (.free rfl) rfl rfl (qt_move rfl rfl) ?_
      refine gd_q (.free rfl) rfl rfl (qt_call rfl Try.func95 rfl (by decide) rfl (fun w M => specPar_any w _ _ (rdC_mk (mem_rd M h1) (mem_rd M h2) (mem_rd M h3) (mem_rd2 M h4)) _ _ (by first | assumption | omega) (by first | assumption | omega) (by first | assumption | omega) (by first | assumption | omega) (by first | assumption | omega))) ?_
      refine gd_splitv (.free rfl) rfl rfl (qt_move rfl rfl) (fun hs7_5 => ?_) (fun hs7_5 => ?_)
      · try simp only [decide_eq_true_eq, decide_eq_false_iff_not, Bool.not_eq_true', Bool.not_eq_false', Bool.not_eq_eq_eq_not, Bool.not_true, Bool.not_false, ne_eq, Decidable.not_not, Classical.not_not] at hs7_5
        refine gd_v (.held _ _ _ rfl rfl rfl) rfl rfl (qt_field (z := 0) (off := 11) rfl rfl Try.underlying32 rfl (by kernel_rfl) rfl) ?_
        refine gd_v (.held _ _ _ rfl rfl rfl) rfl rfl (qt_loadB (n := 0) rfl rfl Try.underlying22 rfl rfl rfl) ?_
        refine gd_v (.held _ _ _ rfl rfl rfl) rfl rfl (qt_move rfl rfl) ?_
        refine gd_v (.held _ _ _ rfl rfl rfl) rfl rfl (qt_index rfl rfl rfl ulE1 szE1 (fun w M => lenA_rd h10) (by omega) (by omega)) ?_
        refine gd_v (.held _ _ _ rfl rfl rfl) rfl rfl (qt_load1 rfl rfl Try.underlying2 rfl (fun w M => mem_rd M h10) (by omega) (by omega)) ?_
        refine gd_v (.held _ _ _ rfl rfl rfl) rfl rfl (qt_field (z := 0) (off := 11) rfl rfl Try.underlying32 rfl (by kernel_rfl) rfl) ?_
        refine gd_v (.held _ _ _ rfl rfl rfl) rfl rfl (qt_loadB (n := 0) rfl rfl Try.underlying22 rfl rfl rfl) ?_
        refine gd_v (.held _ _ _ rfl rfl rfl) rfl rfl (qt_move rfl rfl) ?_
        refine gd_v (.held _ _ _ rfl rfl rfl) rfl rfl (qt_index rfl rfl rfl ulE1 szE1 (fun w M => lenA_rd h10) (by omega) (by omega)) ?_
        refine gd_v (.held _ _ _ rfl rfl rfl) rfl rfl (qt_load1 rfl rfl Try.underlying2 rfl (fun w M => mem_rd M h10) (by omega) (by omega)) ?_
        refine gd_v (.held _ _ _ rfl rfl rfl) rfl rfl (qt_eql rfl rfl rfl) ?_
        refine gd_v (.free rfl) rfl rfl (qt_pick_t rfl rfl rfl) ?_
        refine gd_nil ?_
        refine gk_then (hK15 _ _ ?_)
        refine gc_cond rfl (fun hc2 => ?_) (fun hc2 => ?_)
        · try simp only [decide_eq_true_eq, decide_eq_false_iff_not, Bool.not_eq_true', Bool.not_eq_false', Bool.not_eq_eq_eq_not, Bool.not_true, Bool.not_false, ne_eq, Decidable.not_not, Classical.not_not] at hc2
          refine gc_seq fun K16 hK16 => ?_
          refine gc_region ?_
          refine g_v (.free rfl) rfl rfl (qt_assign rfl rfl) ?_
          refine g_nil ?_
          refine gk_then (hK16 _ _ ?_)
          refine gc_ret ?_
          refine gk_block_ret ?_
          refine gk_then_ret ?_
          refine gk_then_ret ?_
          refine gk_block_ret ?_
          refine gk_block_ret ?_
          refine gk_then_ret ?_
          refine gk_then_ret ?_
          refine gk_block_ret ?_
          refine gk_then_ret ?_
          refine ret_1 rfl rfl  (fun w M => ?_)
          rw [bP_f fun hq => hq k g (by omega) (by omega) ⟨bP_t' hs7_5, hc2⟩]; exact ⟨rfl, M.1⟩
        · try simp only [decide_eq_true_eq, decide_eq_false_iff_not, Bool.not_eq_true', Bool.not_eq_false', Bool.not_eq_eq_eq_not, Bool.not_true, Bool.not_false, ne_eq, Decidable.not_not, Classical.not_not] at hc2
          refine gc_skip ?_
          refine gk_block ?_
          refine gk_then (hK14 _ _ ?_)
          refine gc_region ?_
          refine g_v (.free rfl) rfl rfl (qt_move rfl rfl) ?_
          refine g_v (.free rfl) rfl rfl (qt_add rfl rfl rfl (by omega)) ?_
          refine g_v (.free rfl) rfl rfl (qt_assign rfl rfl) ?_
          refine g_nil ?_
          refine gk_then (gk_take 1 ?_)
          refine gk_sub ?hs_17 (hKL11 (g + 1) ?hi_17 ?hm_17)
          case hs_17 => exact (sub_cons rfl (sub_cons rfl (sub_cons rfl (sub_cons rfl (sub_cons rfl sub_nil)))))
          case hi_17 => exact ⟨by omega, all_next0 hi fun hh => hc2 hh.2⟩
          case hm_17 => omega
      · try simp only [decide_eq_true_eq, decide_eq_false_iff_not, Bool.not_eq_true', Bool.not_eq_false', Bool.not_eq_eq_eq_not, Bool.not_true, Bool.not_false, ne_eq, Decidable.not_not, Classical.not_not] at hs7_5
        refine gd_skip (.not _ _ _ _ rfl rfl rfl rfl) rfl rfl ?_
        refine gd_skip (.not _ _ _ _ rfl rfl rfl rfl) rfl rfl ?_
        refine gd_skip (.not _ _ _ _ rfl rfl rfl rfl) rfl rfl ?_
        refine gd_skip (.not _ _ _ _ rfl rfl rfl rfl) rfl rfl ?_
        refine gd_skip (.not _ _ _ _ rfl rfl rfl rfl) rfl rfl ?_
        refine gd_skip (.not _ _ _ _ rfl rfl rfl rfl) rfl rfl ?_
        refine gd_skip (.not _ _ _ _ rfl rfl rfl rfl) rfl rfl ?_
        refine gd_skip (.not _ _ _ _ rfl rfl rfl rfl) rfl rfl ?_
        refine gd_skip (.not _ _ _ _ rfl rfl rfl rfl) rfl rfl ?_
        refine gd_skip (.not _ _ _ _ rfl rfl rfl rfl) rfl rfl ?_
        refine gd_skip (.not _ _ _ _ rfl rfl rfl rfl) rfl rfl ?_
        refine gd_v (.free rfl) rfl rfl (qt_pick_f rfl rfl rfl) ?_
        refine gd_nil ?_
        refine gk_then (hK15 _ _ ?_)
        refine gc_cond_f rfl ?_
        refine gc_skip ?_
        refine gk_block ?_
        refine gk_then (hK14 _ _ ?_)
        refine gc_region ?_
        refine g_v (.free rfl) rfl rfl (qt_move rfl rfl) ?_
        refine g_v (.free rfl) rfl rfl (qt_add rfl rfl rfl (by omega)) ?_
        refine g_v (.free rfl) rfl rfl (qt_assign rfl rfl) ?_
        refine g_nil ?_
        refine gk_then (gk_take 1 ?_)
        refine gk_sub ?hs_18 (hKL11 (g + 1) ?hi_18 ?hm_18)
        case hs_18 => exact (sub_cons rfl (sub_cons rfl (sub_cons rfl (sub_cons rfl (sub_cons rfl sub_nil)))))
        case hi_18 => exact ⟨by omega, all_next0 hi fun hh => bP_f' hs7_5 hh.1⟩
        case hm_18 => omega
    · try simp only [decide_eq_true_eq, decide_eq_false_iff_not, Bool.not_eq_true', Bool.not_eq_false', Bool.not_eq_eq_eq_not, Bool.not_true, Bool.not_false, ne_eq, Decidable.not_not, Classical.not_not] at hc1
      refine gc_exit ?_
      refine gk_then_exit ?_
      refine gk_then_exit ?_
      refine gk_block_hit ?_
      refine gk_block ?_
      refine gk_then (hK9 _ _ ?_)
      refine gc_region ?_
      refine g_v (.free rfl) rfl rfl (qt_move rfl rfl) ?_
      refine g_v (.free rfl) rfl rfl (qt_add rfl rfl rfl (by omega)) ?_
      refine g_v (.free rfl) rfl rfl (qt_assign rfl rfl) ?_
      refine g_nil ?_
      refine gk_then (gk_take 1 ?_)
      refine gk_sub ?hs_19 (hKL6 (k + 1) ?hi_19 ?hm_19)
      case hs_19 => exact (sub_cons rfl (sub_cons rfl (sub_cons rfl sub_nil)))
      case hi_19 => exact ⟨by omega, all_next0 hj fun b hb => hi b (by omega)⟩
      case hm_19 => omega
  · try simp only [decide_eq_true_eq, decide_eq_false_iff_not, Bool.not_eq_true', Bool.not_eq_false', Bool.not_eq_eq_eq_not, Bool.not_true, Bool.not_false, ne_eq, Decidable.not_not, Classical.not_not] at hc0
    refine gc_exit ?_
    refine gk_then_exit ?_
    refine gk_then_exit ?_
    refine gk_block_hit ?_
    refine gk_then (hK4 _ _ ?_)
    refine gc_seq fun K20 hK20 => ?_
    refine gc_region ?_
    refine g_v (.free rfl) rfl rfl (qt_assign rfl rfl) ?_
    refine g_nil ?_
    refine gk_then (hK20 _ _ ?_)
    refine gc_ret ?_
    refine ret_1 rfl rfl  (fun w M => ?_)
    rw [bP_t (p := faithP F) fun a b hb ha => hj a (by omega) b hb]; exact ⟨rfl, M.1⟩

set_option maxHeartbeats 1000000 in
set_option maxRecDepth 100000 in
theorem spec_IsFaithful (w : World) (v : Value) (F : Fct) (h : RdF w v F) :
    Calls Try.prog 32 #[v] w (RetBI w (fIsFaithful F).1 (fIsFaithful F).2) := by
  have h0 := h
  obtain ⟨vx1, vx2, vx3, vx4, vx5, vx6, vx7, vx8, vx9, vx10, vk1, vk2, vk3, vk4, vk5, vk6, vk7, vk8, vk9, vk10, rfl, h1, h2, h3, h4, h5, h6, h7, h8, h9, h10⟩ := h.lists
  go_enter Try.func32, Try.ntmps32
  refine gc_enter (N := 9) rfl (look_cons (k := 0) rfl (look_nil _)) ?_
  refine gc_seq fun K1 hK1 => ?_
  refine gc_region ?_
  refine g_op (.free rfl) fun K3 hK3 => ?_
  refine go_box rfl rfl rfl rfl rfl ?_
  intro B2
  refine hK3 _ _ ?_
  refine g_v (.free rfl) rfl rfl (qt_assign rfl rfl) ?_
  refine g_v (.free rfl) rfl rfl (qt_assign rfl rfl) ?_
  refine g_nil ?_
  refine gk_then (hK1 _ _ ?_)
  refine gc_seq fun K4 hK4 => ?_
  refine gc_seq fun K5 hK5 => ?_
  refine gc_region ?_
  refine g_v (.free rfl) rfl rfl (qt_loadS (n := 0) rfl rfl Try.underlying32 rfl (by kernel_rfl) rfl) ?_
  refine g_q (.free rfl) rfl rfl (qt_call rfl Try.func52 rfl (by decide) rfl (fun w M => specIsF_any w _ _ (mem_rdF M h0))) ?_
  refine g_v (.free rfl) rfl rfl (qt_not rfl rfl) ?_
  refine g_nil ?_
  refine gk_then (hK5 _ _ ?_)
  refine gc_cond rfl (fun hc0 => ?_) (fun hc0 => ?_)
  · try simp only [decide_eq_true_eq, decide_eq_false_iff_not, Bool.not_eq_true', Bool.not_eq_false', Bool.not_eq_eq_eq_not, Bool.not_true, Bool.not_false, ne_eq, Decidable.not_not, Classical.not_not] at hc0
    refine gc_seq fun K6 hK6 => ?_
    refine gc_region ?_
    refine g_v (.free rfl) rfl rfl (qt_assign rfl rfl) ?_
    refine g_v (.free rfl) rfl rfl (qt_assign rfl rfl) ?_
    refine g_nil ?_
    refine gk_then (hK6 _ _ ?_)
    refine gc_ret ?_
    refine gk_then_ret ?_
    refine ret_2 rfl rfl rfl  (fun w M => ?_)
    rw [show fIsFaithful F = (false, 1) from by unfold fIsFaithful; rw [askB_f hc0, (fctErr_f hc0).1]]; exact ⟨rfl, M.1⟩
  · try simp only [decide_eq_true_eq, decide_eq_false_iff_not, Bool.not_eq_true', Bool.not_eq_false', Bool.not_eq_eq_eq_not, Bool.not_true, Bool.not_false, ne_eq, Decidable.not_not, Classical.not_not] at hc0
    refine gc_skip ?_
    refine gk_then (hK4 _ _ ?_)
    refine gc_seq fun K7 hK7 => ?_
    refine gc_region ?_
    refine g_v (.free rfl) rfl rfl (qt_loadS (n := 0) rfl rfl Try.underlying32 rfl (by kernel_rfl) rfl) ?_
    refine g_q (.free rfl) rfl rfl (qt_call rfl Try.func79 rfl (by decide) rfl (fun w M => specFaith_any w _ _ (mem_rdF M h0) (hc0))) ?_
    refine g_v (.free rfl) rfl rfl (qt_assign rfl rfl) ?_
    refine g_v (.free rfl) rfl rfl (qt_assign rfl rfl) ?_
    refine g_nil ?_
    refine gk_then (hK7 _ _ ?_)
    refine gc_ret ?_
    refine ret_2 rfl rfl rfl  (fun w M => ?_)
    rw [show fIsFaithful F = (bP (faithP F), 0) from by unfold fIsFaithful; rw [askB_t hc0, (fctErr_t hc0).1]]; exact ⟨rfl, M.1⟩

set_option maxHeartbeats 1000000 in
set_option maxRecDepth 100000 in
theorem impl_IsFaithful (w : World) (v : Value) (F : Fct) (h : RdF w v F) :
    Calls Try.prog 33 #[v] w (RetBI w (fIsFaithful F).1 (fIsFaithful F).2) := by
  have h0 := h
  obtain ⟨vx1, vx2, vx3, vx4, vx5, vx6, vx7, vx8, vx9, vx10, vk1, vk2, vk3, vk4, vk5, vk6, vk7, vk8, vk9, vk10, rfl, h1, h2, h3, h4, h5, h6, h7, h8, h9, h10⟩ := h.lists
  go_enter Try.func33, Try.ntmps33
  refine gc_enter (N := 8) rfl (look_cons (k := 0) rfl (look_nil _)) ?_
  refine gc_seq fun K1 hK1 => ?_
  refine gc_region ?_
  refine g_op (.free rfl) fun K3 hK3 => ?_
  refine go_box rfl rfl rfl rfl rfl ?_
  intro B2
  refine hK3 _ _ ?_
  refine g_v (.free rfl) rfl rfl (qt_assign rfl rfl) ?_
  refine g_v (.free rfl) rfl rfl (qt_assign rfl rfl) ?_
  refine g_nil ?_
  refine gk_then (hK1 _ _ ?_)
  refine gc_seq fun K4 hK4 => ?_
  refine gc_region ?_
  refine g_v (.free rfl) rfl rfl (qt_loadS (n := 0) rfl rfl Try.underlying32 rfl (by kernel_rfl) rfl) ?_
  refine g_q (.free rfl) rfl rfl (qt_call rfl Try.func80 rfl (by decide) rfl (fun w M => askB_any w _ _ (mem_rdF M h0) (_) (bP (faithP F)) (fun hI w' hb v h => callsV_f (bnd := []) (vs := [_]) (caps := []) Try.func81 rfl (by decide) (isFaithF_any w' v F h hI)))) ?_
  refine g_v (.free rfl) rfl rfl (qt_extract rfl rfl rfl) ?_
  refine g_v (.free rfl) rfl rfl (qt_extract rfl rfl rfl) ?_
  refine g_v (.free rfl) rfl rfl (qt_assign rfl rfl) ?_
  refine g_v (.free rfl) rfl rfl (qt_assign rfl rfl) ?_
  refine g_nil ?_
  refine gk_then (hK4 _ _ ?_)
  refine gc_ret ?_
  refine ret_2 rfl rfl rfl  (fun w M => ?_)
  exact ⟨rfl, M.1⟩

set_option maxHeartbeats 1000000 in
set_option maxRecDepth 100000 in
theorem spec_KernelCongruence (w : World) (v : Value) (F : Fct) (h : RdF w v F) :
    Calls Try.prog 47 #[v] w (RetLI w (fKernelCongruence F).1 (fKernelCongruence F).2) := by
  have h0 := h
  obtain ⟨vx1, vx2, vx3, vx4, vx5, vx6, vx7, vx8, vx9, vx10, vk1, vk2, vk3, vk4, vk5, vk6, vk7, vk8, vk9, vk10, rfl, h1, h2, h3, h4, h5, h6, h7, h8, h9, h10⟩ := h.lists
  go_enter Try.func47, Try.ntmps47
  refine gc_enter (N := 52) rfl (look_cons (k := 0) rfl (look_nil _)) ?_
  refine gc_seq fun K1 hK1 => ?_
  refine gc_region ?_
  refine g_op (.free rfl) fun K3 hK3 => ?_
  refine go_box rfl rfl rfl rfl rfl ?_
  intro B2
  refine hK3 _ _ ?_
  refine g_v (.free rfl) rfl rfl (qt_assign rfl rfl) ?_
  refine g_v (.free rfl) rfl rfl (qt_assign rfl rfl) ?_
  refine g_nil ?_
  refine gk_then (hK1 _ _ ?_)
  refine gc_seq fun K4 hK4 => ?_
  refine gc_seq fun K5 hK5 => ?_
  refine gc_region ?_
  refine g_v (.free rfl) rfl rfl (qt_loadS (n := 0) rfl rfl Try.underlying32 rfl (by kernel_rfl) rfl) ?_
  refine g_q (.free rfl) rfl rfl (qt_call rfl Try.func52 rfl (by decide) rfl (fun w M => specIsF_any w _ _ (mem_rdF M h0))) ?_
  refine g_v (.free rfl) rfl rfl (qt_not rfl rfl) ?_
  refine g_nil ?_
  refine gk_then (hK5 _ _ ?_)
  refine gc_cond rfl (fun hc0 => ?_) (fun hc0 => ?_)
  · try simp only [decide_eq_true_eq, decide_eq_false_iff_not, Bool.not_eq_true', Bool.not_eq_false', Bool.not_eq_eq_eq_not, Bool.not_true, Bool.not_false, ne_eq, Decidable.not_not, Classical.not_not] at hc0
    refine gc_seq fun K6 hK6 => ?_
    refine gc_region ?_
    refine g_v (.free rfl) rfl rfl (qt_assign rfl rfl) ?_
    refine g_v (.free rfl) rfl rfl (qt_assign rfl rfl) ?_
    refine g_nil ?_
    refine gk_then (hK6 _ _ ?_)
    refine gc_ret ?_
    refine gk_then_ret ?_
    refine ret_2 rfl rfl rfl  (fun w M => ?_)
    rw [show fKernelCongruence F = ([], 1) from by unfold fKernelCongruence; rw [askL_f hc0, (fctErr_f hc0).1]]; exact ⟨_, rfl, Sl.nil _ _, M.1⟩
  · try simp only [decide_eq_true_eq, decide_eq_false_iff_not, Bool.not_eq_true', Bool.not_eq_false', Bool.not_eq_eq_eq_not, Bool.not_true, Bool.not_false, ne_eq, Decidable.not_not, Classical.not_not] at hc0
    refine gc_skip ?_
    refine gk_then (hK4 _ _ ?_)
    refine gc_seq fun K7 hK7 => ?_
    have hI := hc0
    have hF := isf_of hI
    have hS := (isCat_of hF.cs).toShapeP
    have hn40 := hS.n40; have htl := hS.tl; have la := hF.la
    refine gc_region ?_
    refine g_op (.free rfl) fun K9 hK9 => ?_
    refine go_sliceR0 rfl rfl rfl Try.underlying23 ?_
    intro B8
    refine hK9 _ _ ?_
    refine g_v (.free rfl) rfl rfl (qt_assign rfl rfl) ?_
    refine g_nil ?_
    refine gk_then (hK7 _ _ ?_)
    refine gc_seq fun K10 hK10 => ?_
    refine gc_seq fun K11 hK11 => ?_
    refine gc_region ?_
    refine g_v (.free rfl) rfl rfl (qt_assign rfl rfl) ?_
    refine g_nil ?_
    refine gk_then (hK11 _ _ ?_)
    refine gc_block ?_
    rw [show ∀ v us, own2U v us ([] : List (List Int)) = own2U v us (kpL (sameL F) 0 0) from fun v us => by rw [kpL_zero]]
    try simp only [List.nil_append, List.cons_append, List.append_assoc, List.set_cons_succ, List.set_cons_zero]
    refine gc_loop ([(0, _), (1, _), (2, _), (3, _), (9, _)] : Env) (fun s : Nat × (Option Addr) × Nat × (List Value) => (fun (k : Nat) (p : Option Addr) (q : Nat) (us : List Value) => ([(4, .slice p (kpL (sameL F) k 0).length q), (5, .int .i64 (k : Int))] : Env)) s.1 s.2.1 s.2.2.1 s.2.2.2) (fun s : Nat × (Option Addr) × Nat × (List Value) => (fun (k : Nat) (p : Option Addr) (q : Nat) (us : List Value) => ([(1, own2U (.slice p (kpL (sameL F) k 0).length q) us (kpL (sameL F) k 0))] : List (Nat × Itm))) s.1 s.2.1 s.2.2.1 s.2.2.2) (fun s : Nat × (Option Addr) × Nat × (List Value) => (fun (k : Nat) (p : Option Addr) (q : Nat) (us : List Value) => k ≤ F.a.length) s.1 s.2.1 s.2.2.1 s.2.2.2) (fun s : Nat × (Option Addr) × Nat × (List Value) => (fun (k : Nat) (p : Option Addr) (q : Nat) (us : List Value) => F.a.length - k) s.1 s.2.1 s.2.2.1 s.2.2.2) (0, _, _, _) (sub_cons rfl (sub_cons rfl (sub_cons rfl (sub_cons rfl (sub_cons rfl (sub_cons rfl (sub_cons rfl sub_nil))))))) rfl (Nat.zero_le _) ?_
    rintro ⟨k, p, q, us⟩ hinv KL12 hKL12
    simp only [updL, List.foldl_cons, List.foldl_nil, List.set_cons_succ, List.set_cons_zero, List.cons_append, List.nil_append] at hinv hKL12 ⊢
    have hk := hinv
    have hlk := kpL_len (sameL F) (a := k) (b := 0) (by omega) (by omega)
    refine gc_seq fun K13 hK13 => ?_
    refine gc_seq fun K14 hK14 => ?_
    refine gc_region ?_
    refine g_v (.free rfl) rfl rfl (qt_move rfl rfl) ?_
    refine g_v (.free rfl) rfl rfl (qt_field (z := 0) (off := 11) rfl rfl Try.underlying32 rfl (by kernel_rfl) rfl) ?_
    refine g_v (.free rfl) rfl rfl (qt_loadB (n := 0) rfl rfl Try.underlying22 rfl rfl rfl) ?_
    refine g_v (.free rfl) rfl rfl (qt_len rfl rfl ulE1 (fun w M => lenV_rd h10)) ?_
    refine g_v (.free rfl) rfl rfl (qt_lss rfl rfl rfl) ?_
    refine g_nil ?_
    refine gk_then (hK14 _ _ ?_)
    refine gc_cond rfl (fun hc1 => ?_) (fun hc1 => ?_)
    · try simp only [decide_eq_true_eq, decide_eq_false_iff_not, Bool.not_eq_true', Bool.not_eq_false', Bool.not_eq_eq_eq_not, Bool.not_true, Bool.not_false, ne_eq, Decidable.not_not, Classical.not_not] at hc1
      refine gc_skip ?_
      refine gk_then (hK13 _ _ ?_)
      refine gc_seq fun K15 hK15 => ?_
      refine gc_block ?_
      refine gc_seq fun K16 hK16 => ?_
      refine gc_region ?_
      refine g_v (.free rfl) rfl rfl (qt_assign rfl rfl) ?_
      refine g_nil ?_
      refine gk_then (hK16 _ _ ?_)
      refine gc_block ?_
      try simp only [List.nil_append, List.cons_append, List.append_assoc, List.set_cons_succ, List.set_cons_zero]
      refine gc_loop ([(0, _), (1, _), (2, _), (3, _), (5, _), (9, _), (15, _)] : Env) (fun s : Nat × (Option Addr) × Nat × (List Value) => (fun (g : Nat) (p : Option Addr) (q : Nat) (us : List Value) => ([(4, .slice p (kpL (sameL F) k g).length q), (6, .int .i64 (g : Int))] : Env)) s.1 s.2.1 s.2.2.1 s.2.2.2) (fun s : Nat × (Option Addr) × Nat × (List Value) => (fun (g : Nat) (p : Option Addr) (q : Nat) (us : List Value) => ([(1, own2U (.slice p (kpL (sameL F) k g).length q) us (kpL (sameL F) k g))] : List (Nat × Itm))) s.1 s.2.1 s.2.2.1 s.2.2.2) (fun s : Nat × (Option Addr) × Nat × (List Value) => (fun (g : Nat) (p : Option Addr) (q : Nat) (us : List Value) => g ≤ k) s.1 s.2.1 s.2.2.1 s.2.2.2) (fun s : Nat × (Option Addr) × Nat × (List Value) => (fun (g : Nat) (p : Option Addr) (q : Nat) (us : List Value) => k - g) s.1 s.2.1 s.2.2.1 s.2.2.2) (0, _, _, _) (sub_cons rfl (sub_cons rfl (sub_cons rfl (sub_cons rfl (sub_cons rfl (sub_cons rfl (sub_cons rfl (sub_cons rfl (sub_cons rfl sub_nil))))))))) rfl (Nat.zero_le _) ?_
      rintro ⟨g, p, q, us⟩ hinv KL17 hKL17
      simp only [updL, List.foldl_cons, List.foldl_nil, List.set_cons_succ, List.set_cons_zero, List.cons_append, List.nil_append] at hinv hKL17 ⊢
      have hg := hinv
      have hlg := kpL_len (sameL F) (a := k) (b := g) (by omega) (by omega)
      refine gc_seq fun K18 hK18 => ?_
      refine gc_seq fun K19 hK19 => ?_
      refine gc_region ?_
      refine g_v (.free rfl) rfl rfl (qt_move rfl rfl) ?_
      refine g_v (.free rfl) rfl rfl (qt_move rfl rfl) ?_
      refine g_v (.free rfl) rfl rfl (qt_lss rfl rfl rfl) ?_
      refine g_nil ?_
      refine gk_then (hK19 _ _ ?_)
      refine gc_cond rfl (fun hc2 => ?_) (fun hc2 => ?_)
      · try simp only [decide_eq_true_eq, decide_eq_false_iff_not, Bool.not_eq_true', Bool.not_eq_false', Bool.not_eq_eq_eq_not, Bool.not_true, Bool.not_false, ne_eq, Decidable.not_not, Classical.not_not] at hc2
        refine gc_skip ?_
        refine gk_then (hK18 _ _ ?_)
        refine gc_seq fun K20 hK20 => ?_
        refine gc_block ?_
        refine gc_seq fun K21 hK21 => ?_
        refine gc_draw (by kernel_rfl) ?_
        refine gd_v (.free rfl) rfl rfl (qt_field (z := 4) (off := 0) rfl rfl Try.underlying32 rfl (by kernel_rfl) rfl) ?_
        refine gd_v (.free rfl) rfl rfl (qt_loadP (n := 0) (z := 5) rfl rfl Try.underlying30 rfl (by kernel_rfl) rfl (by first | decide | exact Nat.le_refl _ | simp)) ?_
        refine gd_v (.free rfl) rfl rfl (qt_move rfl rfl) ?_
        refine gd_v (.free rfl) rfl rfl (qt_move rfl rfl) ?_
        refine gd_q (.free rfl) rfl rfl (qt_call rfl Try.func95 rfl (by decide) rfl (fun w M => specPar_any w _ _ (rdC_mk (mem_rd M h1) (mem_rd M h2) (mem_rd M h3) (mem_rd2 M h4)) _ _ (by first | assumption | omega) (by first | assumption | omega) (by first | assumption | omega) (by first | assumption | omega) (by first | assumption | omega))) ?_
        refine gd_splitv (.free rfl) rfl rfl (qt_move rfl rfl) (fun hs10_5 => ?_) (fun hs10_5 => ?_)
        · try simp only [decide_eq_true_eq, decide_eq_false_iff_not, Bool.not_eq_true', Bool.not_eq_false', Bool.not_eq_eq_eq_not, Bool.not_true, Bool.not_false, ne_eq, Decidable.not_not, Classical.not_not] at hs10_5
          refine gd_v (.held _ _ _ rfl rfl rfl) rfl rfl (qt_field (z := 0) (off := 11) rfl rfl Try.underlying32 rfl (by kernel_rfl) rfl) ?_
          refine gd_v (.held _ _ _ rfl rfl rfl) rfl rfl (qt_loadB (n := 0) rfl rfl Try.underlying22 rfl rfl rfl) ?_
          refine gd_v (.held _ _ _ rfl rfl rfl) rfl rfl (qt_move rfl rfl) ?_
          refine gd_v (.held _ _ _ rfl rfl rfl) rfl rfl (qt_index rfl rfl rfl ulE1 szE1 (fun w M => lenA_rd h10) (by omega) (by omega)) ?_
          refine gd_v (.held _ _ _ rfl rfl rfl) rfl rfl (qt_load1 rfl rfl Try.underlying2 rfl (fun w M => mem_rd M h10) (by omega) (by omega)) ?_
          refine gd_v (.held _ _ _ rfl rfl rfl) rfl rfl (qt_field (z := 0) (off := 11) rfl rfl Try.underlying32 rfl (by kernel_rfl) rfl) ?_
          refine gd_v (.held _ _ _ rfl rfl rfl) rfl rfl (qt_loadB (n := 0) rfl rfl Try.underlying22 rfl rfl rfl) ?_
          refine gd_v (.held _ _ _ rfl rfl rfl) rfl rfl (qt_move rfl rfl) ?_
          refine gd_v (.held _ _ _ rfl rfl rfl) rfl rfl (qt_index rfl rfl rfl ulE1 szE1 (fun w M => lenA_rd h10) (by omega) (by omega)) ?_
          refine gd_v (.held _ _ _ rfl rfl rfl) rfl rfl (qt_load1 rfl rfl Try.underlying2 rfl (fun w M => mem_rd M h10) (by omega) (by omega)) ?_
          refine gd_v (.held _ _ _ rfl rfl rfl) rfl rfl (qt_eql rfl rfl rfl) ?_
          refine gd_v (.free rfl) rfl rfl (qt_pick_t rfl rfl rfl) ?_
          refine gd_nil ?_
          refine gk_then (hK21 _ _ ?_)
          refine gc_cond rfl (fun hc3 => ?_) (fun hc3 => ?_)
          · try simp only [decide_eq_true_eq, decide_eq_false_iff_not, Bool.not_eq_true', Bool.not_eq_false', Bool.not_eq_eq_eq_not, Bool.not_true, Bool.not_false, ne_eq, Decidable.not_not, Classical.not_not] at hc3
            refine gc_region ?_
            refine g_v (.free rfl) rfl rfl (qt_move rfl rfl) ?_
            refine g_v (.free rfl) rfl rfl (qt_move rfl rfl) ?_
            refine g_v (.free rfl) rfl rfl (qt_move rfl rfl) ?_
            refine g_op (.free rfl) fun K23 hK23 => ?_
            refine go_slice2 rfl rfl rfl rfl rfl Try.underlying22 ?_
            intro B22
            refine hK23 _ _ ?_
            refine g_op (.free rfl) fun K25 hK25 => ?_
            refine go_sliceR1 (m := 2) rfl rfl rfl rfl Try.underlying23 rfl ?_
            intro B24
            refine hK25 _ _ ?_
            refine g_op (.free rfl) fun K27 hK27 => ?_
            refine go_appendRow (n := 1) (m := 2) (m' := 1) rfl rfl rfl Try.underlying23 rfl rfl rfl rfl rfl (by omega) ?_
            intro va26 vc26
            refine hK27 _ _ ?_
            refine g_v (.free rfl) rfl rfl (qt_assign rfl rfl) ?_
            refine g_nil ?_
            refine gk_block ?_
            refine gk_then (hK20 _ _ ?_)
            refine gc_region ?_
            refine g_v (.free rfl) rfl rfl (qt_move rfl rfl) ?_
            refine g_v (.free rfl) rfl rfl (qt_add rfl rfl rfl (by omega)) ?_
            refine g_v (.free rfl) rfl rfl (qt_assign rfl rfl) ?_
            refine g_nil ?_
            simp only [kpL_t (P := sameL F) (a := k) (b := g) ⟨bP_t' hs10_5, hc3⟩]
            refine gk_then (gk_take 2 ?_)
            refine gk_sub ?hs_28 (hKL17 (g + 1, _, _, _) ?hi_28 ?hm_28)
            case hs_28 => exact (sub_cons rfl (sub_cons rfl (sub_cons rfl (sub_cons rfl (sub_cons rfl (sub_cons rfl (sub_cons rfl (sub_cons rfl (sub_cons rfl sub_nil)))))))))
            case hi_28 => omega
            case hm_28 => omega
          · try simp only [decide_eq_true_eq, decide_eq_false_iff_not, Bool.not_eq_true', Bool.not_eq_false', Bool.not_eq_eq_eq_not, Bool.not_true, Bool.not_false, ne_eq, Decidable.not_not, Classical.not_not] at hc3
            refine gc_skip ?_
            refine gk_block ?_
            refine gk_then (hK20 _ _ ?_)
            refine gc_region ?_
            refine g_v (.free rfl) rfl rfl (qt_move rfl rfl) ?_
            refine g_v (.free rfl) rfl rfl (qt_add rfl rfl rfl (by omega)) ?_
            refine g_v (.free rfl) rfl rfl (qt_assign rfl rfl) ?_
            refine g_nil ?_
            rw [kpL_f (P := sameL F) (a := k) (b := g) fun hh => hc3 hh.2]
            refine gk_then (gk_take 2 ?_)
            refine gk_sub ?hs_29 (hKL17 (g + 1, _, _, _) ?hi_29 ?hm_29)
            case hs_29 => exact (sub_cons rfl (sub_cons rfl (sub_cons rfl (sub_cons rfl (sub_cons rfl (sub_cons rfl (sub_cons rfl (sub_cons rfl (sub_cons rfl sub_nil)))))))))
            case hi_29 => omega
            case hm_29 => omega
        · try simp only [decide_eq_true_eq, decide_eq_false_iff_not, Bool.not_eq_true', Bool.not_eq_false', Bool.not_eq_eq_eq_not, Bool.not_true, Bool.not_false, ne_eq, Decidable.not_not, Classical.not_not] at hs10_5
          refine gd_skip (.not _ _ _ _ rfl rfl rfl rfl) rfl rfl ?_
          refine gd_skip (.not _ _ _ _ rfl rfl rfl rfl) rfl rfl ?_
          refine gd_skip (.not _ _ _ _ rfl rfl rfl rfl) rfl rfl ?_
          refine gd_skip (.not _ _ _ _ rfl rfl rfl rfl) rfl rfl ?_
          refine gd_skip (.not _ _ _ _ rfl rfl rfl rfl) rfl rfl ?_
          refine gd_skip (.not _ _ _ _ rfl rfl rfl rfl) rfl rfl ?_
          refine gd_skip (.not _ _ _ _ rfl rfl rfl rfl) rfl rfl ?_
          refine gd_skip (.not _ _ _ _ rfl rfl rfl rfl) rfl rfl ?_
          refine gd_skip (.not _ _ _ _ rfl rfl rfl rfl) rfl rfl ?_
          refine gd_skip (.not _ _ _ _ rfl rfl rfl rfl) rfl rfl ?_
          refine gd_skip (.not _ _ _ _ rfl rfl rfl rfl) rfl rfl ?_
          refine gd_v (.free rfl) rfl rfl (qt_pick_f rfl rfl rfl) ?_
          refine gd_nil ?_
          refine gk_then (hK21 _ _ ?_)
          refine gc_cond_f rfl ?_
          refine gc_skip ?_
          refine gk_block ?_
          refine gk_then (hK20 _ _ ?_)
          refine gc_region ?_
          refine g_v (.free rfl) rfl rfl (qt_move rfl rfl) ?_
          refine g_v (.free rfl) rfl rfl (qt_add rfl rfl rfl (by omega)) ?_
          refine g_v (.free rfl) rfl rfl (qt_assign rfl rfl) ?_
          refine g_nil ?_
          rw [kpL_f (P := sameL F) (a := k) (b := g) fun hh => bP_f' hs10_5 hh.1]
          refine gk_then (gk_take 2 ?_)
          refine gk_sub ?hs_30 (hKL17 (g + 1, _, _, _) ?hi_30 ?hm_30)
          case hs_30 => exact (sub_cons rfl (sub_cons rfl (sub_cons rfl (sub_cons rfl (sub_cons rfl (sub_cons rfl (sub_cons rfl (sub_cons rfl (sub_cons rfl sub_nil)))))))))
          case hi_30 => omega
          case hm_30 => omega
      · try simp only [decide_eq_true_eq, decide_eq_false_iff_not, Bool.not_eq_true', Bool.not_eq_false', Bool.not_eq_eq_eq_not, Bool.not_true, Bool.not_false, ne_eq, Decidable.not_not, Classical.not_not] at hc2
        refine gc_exit ?_
        refine gk_then_exit ?_
        refine gk_then_exit ?_
        refine gk_block_hit ?_
        refine gk_block ?_
        refine gk_then (hK15 _ _ ?_)
        refine gc_region ?_
        refine g_v (.free rfl) rfl rfl (qt_move rfl rfl) ?_
        refine g_v (.free rfl) rfl rfl (qt_add rfl rfl rfl (by omega)) ?_
        refine g_v (.free rfl) rfl rfl (qt_assign rfl rfl) ?_
        refine g_nil ?_
        obtain rfl : g = k := by omega
        simp only [kpL_row]
        refine gk_then (gk_take 2 ?_)
        refine gk_sub ?hs_31 (hKL12 (g + 1, _, _, _) ?hi_31 ?hm_31)
        case hs_31 => exact (sub_cons rfl (sub_cons rfl (sub_cons rfl (sub_cons rfl (sub_cons rfl (sub_cons rfl (sub_cons rfl sub_nil)))))))
        case hi_31 => omega
        case hm_31 => omega
    · try simp only [decide_eq_true_eq, decide_eq_false_iff_not, Bool.not_eq_true', Bool.not_eq_false', Bool.not_eq_eq_eq_not, Bool.not_true, Bool.not_false, ne_eq, Decidable.not_not, Classical.not_not] at hc1
      refine gc_exit ?_
      refine gk_then_exit ?_
      refine gk_then_exit ?_
      refine gk_block_hit ?_
      refine gk_then (hK10 _ _ ?_)
      refine gc_seq fun K32 hK32 => ?_
      obtain rfl : k = F.a.length := by omega
      refine gc_region ?_
      refine g_v (.free rfl) rfl rfl (qt_field (z := 0) (off := 11) rfl rfl Try.underlying32 rfl (by kernel_rfl) rfl) ?_
      refine g_v (.free rfl) rfl rfl (qt_loadB (n := 0) rfl rfl Try.underlying22 rfl rfl rfl) ?_
      refine g_v (.free rfl) rfl rfl (qt_len rfl rfl ulE1 (fun w M => lenV_rd h10)) ?_
      refine g_v (.free rfl) rfl rfl (qt_move rfl rfl) ?_
      refine g_op (.free rfl) fun K34 hK34 => ?_
      refine go_callL rfl rfl rfl Try.func96 rfl (by decide) rfl (fun w M => specJoin_any w (F.a.length) _ (kpL (sameL F) F.a.length 0) (by first | assumption | omega) (mem_rdU (n := 1) M rfl) (kpL_pair)) ?_
      intro va33 vc33
      refine hK34 _ _ ?_
      refine g_v (.free rfl) rfl rfl (qt_assign rfl rfl) ?_
      refine g_v (.free rfl) rfl rfl (qt_assign rfl rfl) ?_
      refine g_nil ?_
      refine gk_then (hK32 _ _ ?_)
      refine gc_ret ?_
      refine ret_2 rfl rfl rfl  (fun w M => ?_)
      rw [show fKernelCongruence F = (clsE (plE F), 0) from by unfold fKernelCongruence; rw [askL_t hc0, (fctErr_t hc0).1]]
      rw [ker_join] at M ⊢
      exact ⟨_, rfl, mem_own1 (n := 2) M rfl, M.1⟩

set_option maxHeartbeats 1000000 in
set_option maxRecDepth 100000 in
theorem impl_KernelCongruence (w : World) (v : Value) (F : Fct) (h : RdF w v F) :
    Calls Try.prog 48 #[v] w (RetLI w (fKernelCongruence F).1 (fKernelCongruence F).2) := by
  have h0 := h
  obtain ⟨vx1, vx2, vx3, vx4, vx5, vx6, vx7, vx8, vx9, vx10, vk1, vk2, vk3, vk4, vk5, vk6, vk7, vk8, vk9, vk10, rfl, h1, h2, h3, h4, h5, h6, h7, h8, h9, h10⟩ := h.lists
  go_enter Try.func48, Try.ntmps48
  refine gc_enter (N := 8) rfl (look_cons (k := 0) rfl (look_nil _)) ?_
  refine gc_seq fun K1 hK1 => ?_
  refine gc_region ?_
  refine g_op (.free rfl) fun K3 hK3 => ?_
  refine go_box rfl rfl rfl rfl rfl ?_
  intro B2
  refine hK3 _ _ ?_
  refine g_v (.free rfl) rfl rfl (qt_assign rfl rfl) ?_
  refine g_v (.free rfl) rfl rfl (qt_assign rfl rfl) ?_
  refine g_nil ?_
  refine gk_then (hK1 _ _ ?_)
  refine gc_seq fun K4 hK4 => ?_
  refine gc_region ?_
  refine g_v (.free rfl) rfl rfl (qt_loadS (n := 0) rfl rfl Try.underlying32 rfl (by kernel_rfl) rfl) ?_
  refine g_op (.free rfl) fun K6 hK6 => ?_
  refine go_callLI rfl rfl rfl Try.func93 rfl (by decide) rfl (fun w M => askL_any w _ _ (mem_rdF M h0) (_) (clsE (plE F)) (fun hI w' hb v h => callsV_f (bnd := []) (vs := [_]) (caps := []) Try.func97 rfl (by decide) (kernelF_any w' v F h hI))) ?_
  intro va5 vc5
  refine hK6 _ _ ?_
  refine g_v (.free rfl) rfl rfl (qt_extract rfl rfl rfl) ?_
  refine g_v (.free rfl) rfl rfl (qt_extract rfl rfl rfl) ?_
  refine g_v (.free rfl) rfl rfl (qt_assign rfl rfl) ?_
  refine g_v (.free rfl) rfl rfl (qt_assign rfl rfl) ?_
  refine g_nil ?_
  refine gk_then (hK4 _ _ ?_)
  refine gc_ret ?_
  refine ret_2 rfl rfl rfl  (fun w M => ?_)
  exact ⟨_, rfl, mem_own1 (n := 1) M rfl, M.1⟩
end

section
section
variable {w0 : World} {is : List Itm} {ops : Array Oper} {o : Oper} {N : Nat} {e : Env} {v r : Value} {d : Nat}
theorem qt_makeFB2 {f : Fn} {x : Operand} (hop : o.op = .makeFunc f #[x] #[]) (hx : evo e x = some r) : QV w0 is o e (.func f #[r] #[]) := fun w ρ M F => by
  have hx := F _ _ hx
  simp [execOp, hop, hx, Instr.makeFunc]
theorem qt_loadRQ {x : Operand} {t tb : TypeId} {B j z : Nat} {cs : List Value} {td : TypeDesc} (hb : BxV w0 B tb (.agg cs.toArray)) (hop : o.op = .load t x) (hx : evo e x = some (.pointer (some ⟨B, j, none⟩))) (ht : Try.prog.underlying t = some td) (hd : td.isRow = true)
    (hs : (Try.prog.info? t).map (·.size) = some z) (hl : j + z ≤ cs.length) : QV w0 is o e (.agg ((cs.drop j).take z).toArray) :=
  fun w ac M F => by
    have hx := F _ _ hx
    have hbx := mem_bxR M hb
    have hc : w.rangeAt B j ((cs.drop j).take z) := fun i u hu => by
      refine bx_cell hbx (j + i) ?_
      rw [List.getElem?_take] at hu
      split at hu
      · rw [List.getElem?_drop] at hu; exact hu
      · cases hu
    have hlen : ((cs.drop j).take z).length = z := by simp; omega
    simp only [execOp, hop, hx, Sem.run_bind, run_loadAt_mid w B j t _ td hc ht hd (by rw [hs, hlen]), Result.andThen_ok]
    rfl
end
noncomputable def idxG (p : Nat → Prop) (n : Nat) : Int := match firstN p n with
  | some k => (k : Int)
  | none => -1
theorem idxG_t {p : Nat → Prop} {n k : Nat} (hk : k < n) (h : p k) (h2 : ∀ j, j < k → ¬ p j) : idxG p n = (k : Int) := by unfold idxG; rw [firstN_some hk h h2]
theorem idxG_f {p : Nat → Prop} {n : Nat} (h2 : ∀ j, j < n → ¬ p j) : idxG p n = -1 := by unfold idxG; rw [firstN_none h2]
theorem idxG_ex {p : Nat → Prop} {n : Nat} : bP (∃ i, i < n ∧ p i) = decide (0 ≤ idxG p n) := by
  rw [← bP_dec]
  refine bP_congr ⟨fun ⟨i, hi, hp⟩ => ?_, fun h => ?_⟩
  · obtain ⟨k, hk, h1, h2⟩ : ∃ k, k < n ∧ p k ∧ ∀ j, j < k → ¬ p j := ⟨leastN p, Nat.lt_of_le_of_lt (leastN_spec hp).2 hi, (leastN_spec hp).1, fun j hj hpj => absurd (leastN_spec (p := p) hpj).2 (by omega)⟩
    rw [idxG_t hk h1 h2]; omega
  · refine Classical.byContradiction fun hn => ?_
    rw [idxG_f fun j hj hp => hn ⟨j, hj, hp⟩] at h; omega
theorem nn_inv {c : Cat} {f : Int} (h : 0 ≤ findGo c f (homTo c (at0 c.t f) (at0 c.s f) c.s.length)) : hasInv c f := Classical.byContradiction fun hn => by have := inv_neg.2 hn; omega
theorem inv_nn {c : Cat} {f : Int} (h : hasInv c f) : 0 ≤ findGo c f (homTo c (at0 c.t f) (at0 c.s f) c.s.length) := by
  refine Classical.byContradiction fun hn => ?_
  have := inv_neg.1 (show findGo c f (homTo c (at0 c.t f) (at0 c.s f) c.s.length) < 0 by omega)
  exact this h
def homXY (c : Cat) (x y : Int) : List Int := homTo c x y c.s.length
def isoXY (c : Cat) (x y : Int) : Prop := ∃ i, i < (homXY c x y).length ∧ hasInv c (at0 (homXY c x y) (i : Int))
theorem homXY_len (c : Cat) (x y : Int) : (homXY c x y).length ≤ c.s.length := homTo_len c x y c.s.length
theorem homXY_at {c : Cat} {x y : Int} {k : Nat} (h : k < (homXY c x y).length) : 0 ≤ at0 (homXY c x y) (k : Int) ∧ at0 (homXY c x y) (k : Int) < c.s.length := by
  have := homTo_at (c := c) (x := x) (y := y) (n := c.s.length) (k := k) h
  exact ⟨this.1, this.2.1⟩
def surP (F : Fct) : Prop := ∀ y : Nat, (y : Int) < F.T.ob → ∃ i, i < F.o.length ∧ isoXY F.T (at0 F.o (i : Int)) (y : Int)
noncomputable def fIsEssentiallySurjective (F : Fct) : Bool × Int := (askB F (bP (surP F)), fctErr F)
theorem ex_snoc {p : Nat → Prop} {j : Nat} : (∃ i, i < j + 1 ∧ p i) ↔ (∃ i, i < j ∧ p i) ∨ p j := by
  constructor
  · rintro ⟨i, hi, hp⟩
    by_cases e : i = j
    · subst e; exact .inr hp
    · exact .inl ⟨i, by omega, hp⟩
  · rintro (⟨i, hi, hp⟩ | hp)
    · exact ⟨i, by omega, hp⟩
    · exact ⟨j, by omega, hp⟩

set_option maxHeartbeats 1000000 in
set_option maxRecDepth 100000 in
theorem idxIntsG_any (w : World) (u : Value) (xs : List Int) (fv : Value) (p : Nat → Prop) (hu : Rd w u xs) (hf : ∀ w', Below w.heap.size w w' → ∀ i : Nat, i < xs.length → CallsV fv [.int .i64 (at0 xs (i : Int))] w' (RetB w' (bP (p i)))) :
    Calls Try.prog 153 #[u, fv] w (RetI w (idxG p xs.length)) := by
  obtain ⟨ua, uc, rfl⟩ := rd_form hu
  have hul : xs.length ≤ 17592186044415 := by obtain ⟨_, _, _, hl, _⟩ := hu; exact hl
  go_enter Try.func153, Try.ntmps153
  refine gc_enter (N := 19) rfl (look_cons (k := 0) rfl (look_cons (k := 1) rfl (look_nil _))) ?_
  refine gc_seq fun K1 hK1 => ?_
  refine gc_region ?_
  refine g_v (.free rfl) rfl rfl (qt_assign rfl rfl) ?_
  refine g_nil ?_
  refine gk_then (hK1 _ _ ?_)
  refine gc_seq fun K2 hK2 => ?_
  refine gc_seq fun K3 hK3 => ?_
  refine gc_region ?_
  refine g_v (.free rfl) rfl rfl (qt_move rfl rfl) ?_
  refine g_v (.free rfl) rfl rfl (qt_len rfl rfl ulE1 (fun w M => lenV_rd hu)) ?_
  refine g_v (.free rfl) rfl rfl (qt_move rfl rfl) ?_
  refine g_nil ?_
  refine gk_then (hK3 _ _ ?_)
  refine gc_block ?_
  try simp only [List.nil_append, List.cons_append, List.append_assoc, List.set_cons_succ, List.set_cons_zero]
  refine gc_loop ([(0, _), (1, _), (7, _)] : Env) (fun s : Nat => (fun (k : Nat) => ([(8, .int .i64 (k : Int))] : Env)) s) (fun s : Nat => (fun (k : Nat) => ([] : List (Nat × Itm))) s) (fun s : Nat => (fun (k : Nat) => k ≤ xs.length ∧ ∀ j : Nat, j < k → ¬ p j) s) (fun s : Nat => (fun (k : Nat) => xs.length - k) s) (0) (sub_cons rfl (sub_cons rfl (sub_cons rfl (sub_cons rfl sub_nil)))) rfl ⟨Nat.zero_le _, fun j hj => absurd hj (by omega)⟩ ?_
  rintro k hinv KL4 hKL4
  simp only [updL, List.foldl_cons, List.foldl_nil, List.set_cons_succ, List.set_cons_zero, List.cons_append, List.nil_append] at hinv hKL4 ⊢
  obtain ⟨hk, hno⟩ := hinv
  refine gc_seq fun K5 hK5 => ?_
  refine gc_region ?_
  refine g_v (.free rfl) rfl rfl (qt_lss rfl rfl rfl) ?_
  refine g_nil ?_
  refine gk_then (hK5 _ _ ?_)
  refine gc_seq fun K6 hK6 => ?_
  refine gc_cond rfl (fun hc0 => ?_) (fun hc0 => ?_)
  · try simp only [decide_eq_true_eq, decide_eq_false_iff_not, Bool.not_eq_true', Bool.not_eq_false', Bool.not_eq_eq_eq_not, Bool.not_true, Bool.not_false, ne_eq, Decidable.not_not, Classical.not_not] at hc0
    refine gc_skip ?_
    refine gk_then (hK6 _ _ ?_)
    refine gc_seq fun K7 hK7 => ?_
    refine gc_block ?_
    refine gc_seq fun K8 hK8 => ?_
    refine gc_region ?_
    refine g_v (.free rfl) rfl rfl (qt_move rfl rfl) ?_
    refine g_v (.free rfl) rfl rfl (qt_assign rfl rfl) ?_
    refine g_nil ?_
    refine gk_then (hK8 _ _ ?_)
    refine gc_seq fun K9 hK9 => ?_
    refine gc_region ?_
    refine g_v (.free rfl) rfl rfl (qt_move rfl rfl) ?_
    refine g_v (.free rfl) rfl rfl (qt_move rfl rfl) ?_
    refine g_v (.free rfl) rfl rfl (qt_move rfl rfl) ?_
    refine g_v (.free rfl) rfl rfl (qt_index rfl rfl rfl ulE1 szE1 (fun w M => lenA_rd hu) (by omega) (by omega)) ?_
    refine g_v (.free rfl) rfl rfl (qt_load1 rfl rfl Try.underlying2 rfl (fun w M => mem_rd M hu) (by omega) (by omega)) ?_
    refine g_q (.free rfl) rfl rfl (qt_callV rfl rfl rfl (fun w M => hf w M.1 k (by omega))) ?_
    refine g_nil ?_
    refine gk_then (hK9 _ _ ?_)
    refine gc_cond rfl (fun hc1 => ?_) (fun hc1 => ?_)
    · try simp only [decide_eq_true_eq, decide_eq_false_iff_not, Bool.not_eq_true', Bool.not_eq_false', Bool.not_eq_eq_eq_not, Bool.not_true, Bool.not_false, ne_eq, Decidable.not_not, Classical.not_not] at hc1
      refine gc_seq fun K10 hK10 => ?_
      refine gc_region ?_
      refine g_v (.free rfl) rfl rfl (qt_move rfl rfl) ?_
      refine g_v (.free rfl) rfl rfl (qt_assign rfl rfl) ?_
      refine g_nil ?_
      refine gk_then (hK10 _ _ ?_)
      refine gc_ret ?_
      refine gk_block_ret ?_
      refine gk_then_ret ?_
      refine gk_then_ret ?_
      refine gk_block_ret ?_
      refine gk_then_ret ?_
      refine ret_1 rfl rfl  (fun w M => ?_)
      rw [idxG_t (by omega) (bP_t' hc1) hno]; exact ⟨rfl, M.1⟩
    · try simp only [decide_eq_true_eq, decide_eq_false_iff_not, Bool.not_eq_true', Bool.not_eq_false', Bool.not_eq_eq_eq_not, Bool.not_true, Bool.not_false, ne_eq, Decidable.not_not, Classical.not_not] at hc1
      refine gc_skip ?_
      refine gk_block ?_
      refine gk_then (hK7 _ _ ?_)
      refine gc_region ?_
      refine g_v (.free rfl) rfl rfl (qt_add rfl rfl rfl (by omega)) ?_
      refine g_v (.free rfl) rfl rfl (qt_move rfl rfl) ?_
      refine g_nil ?_
      refine gk_then (gk_take 0 ?_)
      refine gk_sub ?hs_11 (hKL4 (k + 1) ?hi_11 ?hm_11)
      case hs_11 => exact (sub_cons rfl (sub_cons rfl (sub_cons rfl (sub_cons rfl sub_nil))))
      case hi_11 => exact ⟨by omega, all_next hno (bP_f' hc1)⟩
      case hm_11 => omega
  · try simp only [decide_eq_true_eq, decide_eq_false_iff_not, Bool.not_eq_true', Bool.not_eq_false', Bool.not_eq_eq_eq_not, Bool.not_true, Bool.not_false, ne_eq, Decidable.not_not, Classical.not_not] at hc0
    refine gc_exit ?_
    refine gk_then_exit ?_
    refine gk_then_exit ?_
    refine gk_block_hit ?_
    refine gk_then (hK2 _ _ ?_)
    refine gc_seq fun K12 hK12 => ?_
    refine gc_region ?_
    refine g_v (.free rfl) rfl rfl (qt_assign rfl rfl) ?_
    refine g_nil ?_
    refine gk_then (hK12 _ _ ?_)
    refine gc_ret ?_
    refine ret_1 rfl rfl  (fun w M => ?_)
    rw [idxG_f fun j hj => hno j (by omega)]; exact ⟨rfl, M.1⟩

set_option maxHeartbeats 1000000 in
set_option maxRecDepth 100000 in
theorem conIntsG_any (w : World) (u : Value) (xs : List Int) (fv : Value) (p : Nat → Prop) (hu : Rd w u xs) (hf : ∀ w', Below w.heap.size w w' → ∀ i : Nat, i < xs.length → CallsV fv [.int .i64 (at0 xs (i : Int))] w' (RetB w' (bP (p i)))) :
    Calls Try.prog 127 #[u, fv] w (RetB w (bP (∃ i, i < xs.length ∧ p i))) := by
  obtain ⟨ua, uc, rfl⟩ := rd_form hu
  go_enter Try.func127, Try.ntmps127
  refine gc_enter (N := 9) rfl (look_cons (k := 0) rfl (look_cons (k := 1) rfl (look_nil _))) ?_
  refine gc_seq fun K1 hK1 => ?_
  refine gc_region ?_
  refine g_v (.free rfl) rfl rfl (qt_assign rfl rfl) ?_
  refine g_nil ?_
  refine gk_then (hK1 _ _ ?_)
  refine gc_seq fun K2 hK2 => ?_
  refine gc_region ?_
  refine g_v (.free rfl) rfl rfl (qt_move rfl rfl) ?_
  refine g_v (.free rfl) rfl rfl (qt_move rfl rfl) ?_
  refine g_q (.free rfl) rfl rfl (qt_call rfl Try.func153 rfl (by decide) rfl (fun w M => idxIntsG_any w _ (xs) _ (p) (mem_rd M hu) (fun w' hb i hi => hf w' (M.1.trans (hb.mono M.1.size)) i hi))) ?_
  refine g_v (.free rfl) rfl rfl (qt_geq rfl rfl rfl) ?_
  refine g_v (.free rfl) rfl rfl (qt_assign rfl rfl) ?_
  refine g_nil ?_
  refine gk_then (hK2 _ _ ?_)
  refine gc_ret ?_
  refine ret_1 rfl rfl  (fun w M => ?_)
  rw [idxG_ex]; exact ⟨rfl, M.1⟩

set_option maxHeartbeats 1000000 in
set_option maxRecDepth 100000 in
theorem areIso_any (w : World) (v : Value) (c : Cat) (x y : Int) (h : RdC w v c) (hS : ShapeP c) :
    Calls Try.prog 126 #[v, .int .i64 x, .int .i64 y] w (RetB w (bP (isoXY c x y))) := by
  have h0 := h
  obtain ⟨va, vb, vc, vd, ve, vf, vg, vh, rfl, h1, h2, h3, h4, _⟩ := h.lists
  have hhl := homXY_len c x y
  go_enter Try.func126, Try.ntmps126
  refine gc_enter (N := 15) rfl (look_cons (k := 0) rfl (look_cons (k := 1) rfl (look_cons (k := 2) rfl (look_nil _)))) ?_
  refine gc_seq fun K1 hK1 => ?_
  refine gc_region ?_
  refine g_op (.free rfl) fun K3 hK3 => ?_
  refine go_box rfl rfl rfl rfl rfl ?_
  intro B2
  refine hK3 _ _ ?_
  refine g_v (.free rfl) rfl rfl (qt_assign rfl rfl) ?_
  refine g_nil ?_
  refine gk_then (hK1 _ _ ?_)
  refine gc_seq fun K4 hK4 => ?_
  try simp only [List.nil_append, List.cons_append, List.append_assoc, List.set_cons_succ, List.set_cons_zero]
  refine ga_start _ (fun w M => M) ?_
  refine ga_v 0 rfl (by kernel_rfl) (by kernel_rfl) (by kernel_rfl) (.free rfl) rfl rfl (qt_loadS (n := 0) rfl rfl Try.underlying30 rfl (by kernel_rfl) rfl) (fun _ _ _ h => h) ?_
  refine ga_v 1 rfl (by kernel_rfl) (by kernel_rfl) (by kernel_rfl) (.free rfl) rfl rfl (qt_move rfl rfl) (fun _ _ _ h => h) ?_
  refine ga_v 2 rfl (by kernel_rfl) (by kernel_rfl) (by kernel_rfl) (.free rfl) rfl rfl (qt_move rfl rfl) (fun _ _ _ h => h) ?_
  refine ga_v 3 rfl (by kernel_rfl) (by kernel_rfl) (by kernel_rfl) (.free rfl) rfl rfl (qt_build rfl rfl bt_arrowEnds) (fun _ _ _ h => h) ?_
  refine ga_v 5 rfl (by kernel_rfl) (by kernel_rfl) (by kernel_rfl) (.free rfl) rfl rfl (qt_loadS (n := 0) rfl rfl Try.underlying30 rfl (by kernel_rfl) rfl) (fun _ _ _ h => h) ?_
  refine ga_two 4 6 (by kernel_rfl) rfl rfl (.free rfl) (.free rfl) (fun K5 hK5 => ?_) (fun K5 hK5 => ?_)
  · refine go_callL rfl rfl rfl Try.func122 rfl (by decide) rfl (fun w M => arrowsBetween_any w _ _ _ _ (mem_rdC M h0) (by first | assumption | omega)) ?_
    intro va6 vc6
    refine hK5 _ _ (fun w M => (mem_take 1 M :)) ?_
    refine ga_op 6 (by kernel_rfl) rfl (.free rfl) fun K8 hK8 => ?_
    refine go_v rfl rfl (qt_makeFB2 rfl rfl) ?_
    refine hK8 _ _ (fun w M => (mem_take 1 M :)) ?_
    refine ga_op 7 (by kernel_rfl) rfl (.free rfl) fun K9 hK9 => ?_
    refine go_q rfl rfl (qt_call rfl Try.func127 rfl (by decide) rfl (fun w M => conIntsG_any w _ (homXY c x y) (_) (fun i => hasInv c (at0 (homXY c x y) (i : Int))) ((mem_own1 (n := 1) M rfl).rd) (fun w' hb i hi => callsV_f (bnd := [_]) (vs := [_]) (caps := []) Try.func152 rfl (by decide) (isInvertible_any w' _ c _ (rdC_below hb (mem_rdC M h0)) hS (homXY_at hi).1 (homXY_at hi).2)))) ?_
    refine hK9 _ _ (fun w M => (mem_take 1 M :)) ?_
    refine ga_v 8 rfl (by kernel_rfl) (by kernel_rfl) (by kernel_rfl) (.free rfl) rfl rfl (qt_assign rfl rfl) (fun _ _ _ h => h) ?_
    refine ga_done (by kernel_rfl) ?_
    refine gk_then (hK4 _ _ ?_)
    refine gc_ret ?_
    refine ret_1 rfl rfl  (fun w M => ?_)
    exact ⟨rfl, M.1⟩
  · refine go_v rfl rfl (qt_makeFB2 rfl rfl) ?_
    refine hK5 _ _ (fun w M => (mem_take 1 M :)) ?_
    refine ga_op 4 (by kernel_rfl) rfl (.free rfl) fun K12 hK12 => ?_
    refine go_callL rfl rfl rfl Try.func122 rfl (by decide) rfl (fun w M => arrowsBetween_any w _ _ _ _ (mem_rdC M h0) (by first | assumption | omega)) ?_
    intro va11 vc11
    refine hK12 _ _ (fun w M => (mem_take 1 M :)) ?_
    refine ga_op 7 (by kernel_rfl) rfl (.free rfl) fun K13 hK13 => ?_
    refine go_q rfl rfl (qt_call rfl Try.func127 rfl (by decide) rfl (fun w M => conIntsG_any w _ (homXY c x y) (_) (fun i => hasInv c (at0 (homXY c x y) (i : Int))) ((mem_own1 (n := 1) M rfl).rd) (fun w' hb i hi => callsV_f (bnd := [_]) (vs := [_]) (caps := []) Try.func152 rfl (by decide) (isInvertible_any w' _ c _ (rdC_below hb (mem_rdC M h0)) hS (homXY_at hi).1 (homXY_at hi).2)))) ?_
    refine hK13 _ _ (fun w M => (mem_take 1 M :)) ?_
    refine ga_v 8 rfl (by kernel_rfl) (by kernel_rfl) (by kernel_rfl) (.free rfl) rfl rfl (qt_assign rfl rfl) (fun _ _ _ h => h) ?_
    refine ga_done (by kernel_rfl) ?_
    refine gk_then (hK4 _ _ ?_)
    refine gc_ret ?_
    refine ret_1 rfl rfl  (fun w M => ?_)
    exact ⟨rfl, M.1⟩

set_option maxHeartbeats 1000000 in
set_option maxRecDepth 100000 in
theorem specAlike_any (w : World) (v : Value) (c : Cat) (x y : Int) (h : RdC w v c) (hS : ShapeP c) :
    Calls Try.prog 124 #[v, .int .i64 x, .int .i64 y] w (RetB w (bP (isoXY c x y))) := by
  have h0 := h
  obtain ⟨va, vb, vc, vd, ve, vf, vg, vh, rfl, h1, h2, h3, h4, _⟩ := h.lists
  have hl : (homXY c x y).length ≤ c.s.length := homXY_len c x y
  have hn40 := hS.n40
  go_enter Try.func124, Try.ntmps124
  refine gc_enter (N := 26) rfl (look_cons (k := 0) rfl (look_cons (k := 1) rfl (look_cons (k := 2) rfl (look_nil _)))) ?_
  refine gc_seq fun K1 hK1 => ?_
  refine gc_region ?_
  refine g_op (.free rfl) fun K3 hK3 => ?_
  refine go_box rfl rfl rfl rfl rfl ?_
  intro B2
  refine hK3 _ _ ?_
  refine g_v (.free rfl) rfl rfl (qt_assign rfl rfl) ?_
  refine g_nil ?_
  refine gk_then (hK1 _ _ ?_)
  refine gc_seq fun K4 hK4 => ?_
  refine gc_region ?_
  refine g_v (.free rfl) rfl rfl (qt_loadS (n := 0) rfl rfl Try.underlying30 rfl (by kernel_rfl) rfl) ?_
  refine g_v (.free rfl) rfl rfl (qt_move rfl rfl) ?_
  refine g_v (.free rfl) rfl rfl (qt_move rfl rfl) ?_
  refine g_op (.free rfl) fun K6 hK6 => ?_
  refine go_callL rfl rfl rfl Try.func119 rfl (by decide) rfl (fun w M => specHom_any w _ _ _ _ (mem_rdC M h0) (by first | assumption | omega)) ?_
  intro va5 vc5
  refine hK6 _ _ ?_
  refine g_v (.free rfl) rfl rfl (qt_assign rfl rfl) ?_
  refine g_nil ?_
  refine gk_then (hK4 _ _ ?_)
  refine gc_seq fun K7 hK7 => ?_
  refine gc_seq fun K8 hK8 => ?_
  refine gc_region ?_
  refine g_v (.free rfl) rfl rfl (qt_assign rfl rfl) ?_
  refine g_nil ?_
  refine gk_then (hK8 _ _ ?_)
  refine gc_block ?_
  simp only [show homTo c x y c.s.length = homXY c x y from rfl]
  try simp only [List.nil_append, List.cons_append, List.append_assoc, List.set_cons_succ, List.set_cons_zero]
  refine gc_loop ([(0, _), (1, _), (2, _), (3, _), (7, _)] : Env) (fun s : Nat => (fun (k : Nat) => ([(8, .int .i64 (k : Int))] : Env)) s) (fun s : Nat => (fun (k : Nat) => ([] : List (Nat × Itm))) s) (fun s : Nat => (fun (k : Nat) => k ≤ (homXY c x y).length ∧ ∀ j : Nat, j < k → ¬ hasInv c (at0 (homXY c x y) (j : Int))) s) (fun s : Nat => (fun (k : Nat) => (homXY c x y).length - k) s) (0) (sub_cons rfl (sub_cons rfl (sub_cons rfl (sub_cons rfl (sub_cons rfl (sub_cons rfl sub_nil)))))) rfl ⟨Nat.zero_le _, fun j hj => absurd hj (by omega)⟩ ?_
  rintro k hinv KL9 hKL9
  simp only [updL, List.foldl_cons, List.foldl_nil, List.set_cons_succ, List.set_cons_zero, List.cons_append, List.nil_append] at hinv hKL9 ⊢
  obtain ⟨hk, hno⟩ := hinv
  refine gc_seq fun K10 hK10 => ?_
  refine gc_seq fun K11 hK11 => ?_
  refine gc_region ?_
  refine g_v (.free rfl) rfl rfl (qt_move rfl rfl) ?_
  refine g_v (.free rfl) rfl rfl (qt_move rfl rfl) ?_
  refine g_v (.free rfl) rfl rfl (qt_len rfl rfl ulE1 (fun w M => lenV_own1 (n := 1) rfl M)) ?_
  refine g_v (.free rfl) rfl rfl (qt_lss rfl rfl rfl) ?_
  refine g_nil ?_
  refine gk_then (hK11 _ _ ?_)
  refine gc_cond rfl (fun hc0 => ?_) (fun hc0 => ?_)
  · try simp only [decide_eq_true_eq, decide_eq_false_iff_not, Bool.not_eq_true', Bool.not_eq_false', Bool.not_eq_eq_eq_not, Bool.not_true, Bool.not_false, ne_eq, Decidable.not_not, Classical.not_not] at hc0
    refine gc_skip ?_
    refine gk_then (hK10 _ _ ?_)
    refine gc_seq fun K12 hK12 => ?_
    refine gc_block ?_
    refine gc_seq fun K13 hK13 => ?_
    have hg := homXY_at (c := c) (x := x) (y := y) (k := k) (by omega)
    have g0 := hg.1; have g1 := hg.2
    refine gc_draw (by kernel_rfl) ?_
    refine gd_v (.free rfl) rfl rfl (qt_loadS (n := 0) rfl rfl Try.underlying30 rfl (by kernel_rfl) rfl) ?_
    refine gd_v (.free rfl) rfl rfl (qt_move rfl rfl) ?_
    refine gd_v (.free rfl) rfl rfl (qt_move rfl rfl) ?_
    refine gd_v (.free rfl) rfl rfl (qt_index rfl rfl rfl ulE1 szE1 (fun w M => lenA_own1 (n := 1) rfl M) (by omega) (by omega)) ?_
    refine gd_v (.free rfl) rfl rfl (qt_load1 rfl rfl Try.underlying2 rfl (fun w M => (mem_own1 (n := 1) M rfl).rd) (by omega) (by omega)) ?_
    refine gd_q (.free rfl) rfl rfl (qt_call rfl Try.func151 rfl (by decide) rfl (fun w M => specInverse_any w _ _ _ (mem_rdC M h0) (by first | assumption | omega) (by first | assumption | omega) (by first | assumption | omega))) ?_
    refine gd_v (.free rfl) rfl rfl (qt_geq rfl rfl rfl) ?_
    refine gd_nil ?_
    refine gk_then (hK13 _ _ ?_)
    refine gc_cond rfl (fun hc1 => ?_) (fun hc1 => ?_)
    · try simp only [decide_eq_true_eq, decide_eq_false_iff_not, Bool.not_eq_true', Bool.not_eq_false', Bool.not_eq_eq_eq_not, Bool.not_true, Bool.not_false, ne_eq, Decidable.not_not, Classical.not_not] at hc1
      refine gc_seq fun K14 hK14 => ?_
      refine gc_region ?_
      refine g_v (.free rfl) rfl rfl (qt_assign rfl rfl) ?_
      refine g_nil ?_
      refine gk_then (hK14 _ _ ?_)
      refine gc_ret ?_
      refine gk_block_ret ?_
      refine gk_then_ret ?_
      refine gk_then_ret ?_
      refine gk_block_ret ?_
      refine gk_then_ret ?_
      refine ret_1 rfl rfl  (fun w M => ?_)
      rw [bP_t ⟨k, by omega, nn_inv hc1⟩]; exact ⟨rfl, M.1⟩
    · try simp only [decide_eq_true_eq, decide_eq_false_iff_not, Bool.not_eq_true', Bool.not_eq_false', Bool.not_eq_eq_eq_not, Bool.not_true, Bool.not_false, ne_eq, Decidable.not_not, Classical.not_not] at hc1
      refine gc_skip ?_
      refine gk_block ?_
      refine gk_then (hK12 _ _ ?_)
      refine gc_region ?_
      refine g_v (.free rfl) rfl rfl (qt_move rfl rfl) ?_
      refine g_v (.free rfl) rfl rfl (qt_add rfl rfl rfl (by omega)) ?_
      refine g_v (.free rfl) rfl rfl (qt_assign rfl rfl) ?_
      refine g_nil ?_
      refine gk_then (gk_take 2 ?_)
      refine gk_sub ?hs_15 (hKL9 (k + 1) ?hi_15 ?hm_15)
      case hs_15 => exact (sub_cons rfl (sub_cons rfl (sub_cons rfl (sub_cons rfl (sub_cons rfl (sub_cons rfl sub_nil))))))
      case hi_15 => exact ⟨by omega, all_next hno (fun hh => absurd (inv_nn hh) (by omega))⟩
      case hm_15 => omega
  · try simp only [decide_eq_true_eq, decide_eq_false_iff_not, Bool.not_eq_true', Bool.not_eq_false', Bool.not_eq_eq_eq_not, Bool.not_true, Bool.not_false, ne_eq, Decidable.not_not, Classical.not_not] at hc0
    refine gc_exit ?_
    refine gk_then_exit ?_
    refine gk_then_exit ?_
    refine gk_block_hit ?_
    refine gk_then (hK7 _ _ ?_)
    refine gc_seq fun K16 hK16 => ?_
    refine gc_region ?_
    refine g_v (.free rfl) rfl rfl (qt_assign rfl rfl) ?_
    refine g_nil ?_
    refine gk_then (hK16 _ _ ?_)
    refine gc_ret ?_
    refine ret_1 rfl rfl  (fun w M => ?_)
    rw [bP_f fun ⟨i, hi, hh⟩ => hno i (by omega) hh]; exact ⟨rfl, M.1⟩

set_option maxHeartbeats 1000000 in
set_option maxRecDepth 100000 in
theorem near_any (w : World) (x : Int) (B D : Nat) (v : Value) (F : Fct) (y : Int) (h : RdF w v F) (hbB : BxV w B 32 v) (hbD : BxV w D 2 (.agg [Value.int .i64 y].toArray)) (hT : ShapeP F.T) :
    Calls Try.prog 125 #[.int .i64 x, .pointer (some ⟨B, 0, none⟩), .pointer (some ⟨D, 0, none⟩)] w (RetB w (bP (isoXY F.T x y))) := by
  obtain ⟨vx1, vx2, vx3, vx4, vx5, vx6, vx7, vx8, vx9, vx10, vk1, vk2, vk3, vk4, vk5, vk6, vk7, vk8, vk9, vk10, rfl, h1, h2, h3, h4, h5, h6, h7, h8, h9, h10⟩ := h.lists
  go_enter Try.func125, Try.ntmps125
  refine gc_enter (N := 10) rfl (look_cons (k := 0) rfl (look_cons (k := 1) rfl (look_cons (k := 2) rfl (look_nil _)))) ?_
  refine gc_seq fun K1 hK1 => ?_
  refine gc_region ?_
  refine g_v (.free rfl) rfl rfl (qt_assign rfl rfl) ?_
  refine g_nil ?_
  refine gk_then (hK1 _ _ ?_)
  refine gc_seq fun K2 hK2 => ?_
  refine gc_region ?_
  refine g_v (.free rfl) rfl rfl (qt_field (z := 4) (off := 5) rfl rfl Try.underlying32 rfl (by kernel_rfl) rfl) ?_
  refine g_v (.free rfl) rfl rfl (qt_loadRQ hbB (z := 5) rfl rfl Try.underlying30 rfl (by kernel_rfl) (by simp)) ?_
  refine g_v (.free rfl) rfl rfl (qt_move rfl rfl) ?_
  refine g_v (.free rfl) rfl rfl (qt_loadRB hbD rfl rfl Try.underlying2 rfl rfl) ?_
  refine g_q (.free rfl) rfl rfl (qt_call rfl Try.func126 rfl (by decide) rfl (fun w M => areIso_any w _ (F.T) _ _ (rdC_mk (mem_rd M h5) (mem_rd M h6) (mem_rd M h7) (mem_rd2 M h8)) (by first | assumption | omega))) ?_
  refine g_v (.free rfl) rfl rfl (qt_assign rfl rfl) ?_
  refine g_nil ?_
  refine gk_then (hK2 _ _ ?_)
  refine gc_ret ?_
  refine ret_1 rfl rfl  (fun w M => ?_)
  exact ⟨rfl, M.1⟩

set_option maxHeartbeats 1000000 in
set_option maxRecDepth 100000 in
theorem isSurF_any (w : World) (v : Value) (F : Fct) (h : RdF w v F) (hI : fIsFunctor F = true) :
    Calls Try.prog 85 #[v] w (RetB w (bP (surP F))) := by
  have h0 := h
  obtain ⟨vx1, vx2, vx3, vx4, vx5, vx6, vx7, vx8, vx9, vx10, vk1, vk2, vk3, vk4, vk5, vk6, vk7, vk8, vk9, vk10, rfl, h1, h2, h3, h4, h5, h6, h7, h8, h9, h10⟩ := h.lists
  have hF := isf_of hI
  have hT := (isCat_of hF.ct).toShapeP
  have hob0 := hT.ob0; have hob8 := hT.ob8
  have hlo := hF.lo; have hs8 := (isCat_of hF.cs).toShapeP.ob8
  go_enter Try.func85, Try.ntmps85
  refine gc_enter (N := 18) rfl (look_cons (k := 0) rfl (look_nil _)) ?_
  refine gc_seq fun K1 hK1 => ?_
  refine gc_region ?_
  refine g_op (.free rfl) fun K3 hK3 => ?_
  refine go_box rfl rfl rfl rfl rfl ?_
  intro B2
  refine hK3 _ _ ?_
  refine g_v (.free rfl) rfl rfl (qt_assign rfl rfl) ?_
  refine g_nil ?_
  refine gk_then (hK1 _ _ ?_)
  refine gc_seq fun K4 hK4 => ?_
  refine gc_seq fun K5 hK5 => ?_
  refine gc_region ?_
  refine g_v (.free rfl) rfl rfl (qt_field (z := 4) (off := 5) rfl rfl Try.underlying32 rfl (by kernel_rfl) rfl) ?_
  refine g_v (.free rfl) rfl rfl (qt_field (z := 0) (off := 0) rfl rfl Try.underlying30 rfl (by kernel_rfl) rfl) ?_
  refine g_v (.free rfl) rfl rfl (qt_loadB (n := 0) rfl rfl Try.underlying2 rfl rfl rfl) ?_
  refine g_v (.free rfl) rfl rfl (qt_move rfl rfl) ?_
  refine g_nil ?_
  refine gk_then (hK5 _ _ ?_)
  refine gc_block ?_
  try simp only [List.nil_append, List.cons_append, List.append_assoc, List.set_cons_succ, List.set_cons_zero]
  refine gc_loop ([(0, _), (1, _), (7, _)] : Env) (fun s : Nat => (fun (k : Nat) => ([(8, .int .i64 (k : Int))] : Env)) s) (fun s : Nat => (fun (k : Nat) => ([] : List (Nat × Itm))) s) (fun s : Nat => (fun (k : Nat) => (k : Int) ≤ F.T.ob ∧ ∀ j : Nat, j < k → (fun y : Nat => ∃ i, i < F.o.length ∧ isoXY F.T (at0 F.o (i : Int)) (y : Int)) j) s) (fun s : Nat => (fun (k : Nat) => (F.T.ob - (k : Int)).toNat) s) (0) (sub_cons rfl (sub_cons rfl (sub_cons rfl (sub_cons rfl sub_nil)))) rfl ⟨by omega, fun j hj => absurd hj (by omega)⟩ ?_
  rintro k hinv KL6 hKL6
  simp only [updL, List.foldl_cons, List.foldl_nil, List.set_cons_succ, List.set_cons_zero, List.cons_append, List.nil_append] at hinv hKL6 ⊢
  obtain ⟨hk, hj⟩ := hinv
  refine gc_seq fun K7 hK7 => ?_
  refine gc_region ?_
  refine g_v (.free rfl) rfl rfl (qt_lss rfl rfl rfl) ?_
  refine g_nil ?_
  refine gk_then (hK7 _ _ ?_)
  refine gc_seq fun K8 hK8 => ?_
  refine gc_cond rfl (fun hc0 => ?_) (fun hc0 => ?_)
  · try simp only [decide_eq_true_eq, decide_eq_false_iff_not, Bool.not_eq_true', Bool.not_eq_false', Bool.not_eq_eq_eq_not, Bool.not_true, Bool.not_false, ne_eq, Decidable.not_not, Classical.not_not] at hc0
    refine gc_skip ?_
    refine gk_then (hK8 _ _ ?_)
    refine gc_seq fun K9 hK9 => ?_
    refine gc_block ?_
    refine gc_seq fun K10 hK10 => ?_
    refine gc_region ?_
    refine g_v (.free rfl) rfl rfl (qt_move rfl rfl) ?_
    refine g_op (.free rfl) fun K12 hK12 => ?_
    refine go_alloc (z := (.int .i64 0)) (cs := [.int .i64 0]) rfl rfl rfl (fun w => by kernel_rfl) rfl ?_
    intro B11
    refine hK12 _ _ ?_
    refine g_op (.free rfl) fun K13 hK13 => ?_
    refine go_storeB (n := 1) rfl rfl rfl rfl (by kernel_rfl) rfl rfl rfl (by first | decide | simp) ?_
    refine hK13 _ _ ?_
    refine g_nil ?_
    refine gk_then (hK10 _ _ ?_)
    refine gc_seq fun K14 hK14 => ?_
    refine gc_region ?_
    refine g_v (.free rfl) rfl rfl (qt_makeF rfl rfl) ?_
    refine g_v (.free rfl) rfl rfl (qt_assign rfl rfl) ?_
    refine g_nil ?_
    refine gk_then (hK14 _ _ ?_)
    refine gc_seq fun K15 hK15 => ?_
    refine gc_region ?_
    refine g_v (.free rfl) rfl rfl (qt_field (z := 0) (off := 10) rfl rfl Try.underlying32 rfl (by kernel_rfl) rfl) ?_
    refine g_v (.free rfl) rfl rfl (qt_loadB (n := 0) rfl rfl Try.underlying22 rfl rfl rfl) ?_
    refine g_v (.free rfl) rfl rfl (qt_move rfl rfl) ?_
    refine g_q (.free rfl) rfl rfl (qt_call rfl Try.func127 rfl (by decide) rfl (fun w M => conIntsG_any w _ (F.o) (_) (fun i => isoXY F.T (at0 F.o (i : Int)) (k : Int)) (mem_rd M h9) (fun w' hb i hi => callsV_f (bnd := []) (vs := [_]) (caps := [_, _]) Try.func125 rfl (by decide) (near_any w' _ _ _ _ F _ (rdF_below hb (mem_rdF M h0)) (bxV_below hb (bxV_of (n := 0) M rfl)) (bxV_below hb (bxV_of (n := 1) M rfl)) hT)))) ?_
    refine g_v (.free rfl) rfl rfl (qt_not rfl rfl) ?_
    refine g_nil ?_
    refine gk_then (hK15 _ _ ?_)
    refine gc_cond rfl (fun hc1 => ?_) (fun hc1 => ?_)
    · try simp only [decide_eq_true_eq, decide_eq_false_iff_not, Bool.not_eq_true', Bool.not_eq_false', Bool.not_eq_eq_eq_not, Bool.not_true, Bool.not_false, ne_eq, Decidable.not_not, Classical.not_not] at hc1
      refine gc_seq fun K16 hK16 => ?_
      refine gc_region ?_
      refine g_v (.free rfl) rfl rfl (qt_assign rfl rfl) ?_
      refine g_nil ?_
      refine gk_then (hK16 _ _ ?_)
      refine gc_ret ?_
      refine gk_block_ret ?_
      refine gk_then_ret ?_
      refine gk_then_ret ?_
      refine gk_block_ret ?_
      refine gk_then_ret ?_
      refine ret_1 rfl rfl  (fun w M => ?_)
      rw [bP_f fun hq => bP_f' hc1 (hq k (by omega))]; exact ⟨rfl, M.1⟩
    · try simp only [decide_eq_true_eq, decide_eq_false_iff_not, Bool.not_eq_true', Bool.not_eq_false', Bool.not_eq_eq_eq_not, Bool.not_true, Bool.not_false, ne_eq, Decidable.not_not, Classical.not_not] at hc1
      refine gc_skip ?_
      refine gk_block ?_
      refine gk_then (hK9 _ _ ?_)
      refine gc_region ?_
      refine g_v (.free rfl) rfl rfl (qt_add rfl rfl rfl (by omega)) ?_
      refine g_v (.free rfl) rfl rfl (qt_move rfl rfl) ?_
      refine g_nil ?_
      refine gk_then (gk_take 1 ?_)
      refine gk_sub ?hs_17 (hKL6 (k + 1) ?hi_17 ?hm_17)
      case hs_17 => exact (sub_cons rfl (sub_cons rfl (sub_cons rfl (sub_cons rfl sub_nil))))
      case hi_17 => exact ⟨by omega, all_next0 hj (bP_t' hc1)⟩
      case hm_17 => omega
  · try simp only [decide_eq_true_eq, decide_eq_false_iff_not, Bool.not_eq_true', Bool.not_eq_false', Bool.not_eq_eq_eq_not, Bool.not_true, Bool.not_false, ne_eq, Decidable.not_not, Classical.not_not] at hc0
    refine gc_exit ?_
    refine gk_then_exit ?_
    refine gk_then_exit ?_
    refine gk_block_hit ?_
    refine gk_then (hK4 _ _ ?_)
    refine gc_seq fun K18 hK18 => ?_
    refine gc_region ?_
    refine g_v (.free rfl) rfl rfl (qt_assign rfl rfl) ?_
    refine g_nil ?_
    refine gk_then (hK18 _ _ ?_)
    refine gc_ret ?_
    refine ret_1 rfl rfl  (fun w M => ?_)
    rw [bP_t (p := surP F) fun y hy => hj y (by omega)]; exact ⟨rfl, M.1⟩

set_option maxHeartbeats 1000000 in
set_option maxRecDepth 100000 in
theorem specSurF_any (w : World) (v : Value) (F : Fct) (h : RdF w v F) (hI : fIsFunctor F = true) :
    Calls Try.prog 84 #[v] w (RetB w (bP (surP F))) := by
  have h0 := h
  obtain ⟨vx1, vx2, vx3, vx4, vx5, vx6, vx7, vx8, vx9, vx10, vk1, vk2, vk3, vk4, vk5, vk6, vk7, vk8, vk9, vk10, rfl, h1, h2, h3, h4, h5, h6, h7, h8, h9, h10⟩ := h.lists
  have hF := isf_of hI
  have hT := (isCat_of hF.ct).toShapeP
  have hob0 := hT.ob0; have hob8 := hT.ob8
  have hlo := hF.lo; have hs8 := (isCat_of hF.cs).toShapeP.ob8
  go_enter Try.func84, Try.ntmps84
  refine gc_enter (N := 34) rfl (look_cons (k := 0) rfl (look_nil _)) ?_
  refine gc_seq fun K1 hK1 => ?_
  refine gc_region ?_
  refine g_op (.free rfl) fun K3 hK3 => ?_
  refine go_box rfl rfl rfl rfl rfl ?_
  intro B2
  refine hK3 _ _ ?_
  refine g_v (.free rfl) rfl rfl (qt_assign rfl rfl) ?_
  refine g_nil ?_
  refine gk_then (hK1 _ _ ?_)
  refine gc_seq fun K4 hK4 => ?_
  refine gc_seq fun K5 hK5 => ?_
  refine gc_region ?_
  refine g_v (.free rfl) rfl rfl (qt_assign rfl rfl) ?_
  refine g_nil ?_
  refine gk_then (hK5 _ _ ?_)
  refine gc_block ?_
  try simp only [List.nil_append, List.cons_append, List.append_assoc, List.set_cons_succ, List.set_cons_zero]
  refine gc_loop ([(0, _), (1, _)] : Env) (fun s : Nat => (fun (k : Nat) => ([(3, .int .i64 (k : Int))] : Env)) s) (fun s : Nat => (fun (k : Nat) => ([] : List (Nat × Itm))) s) (fun s : Nat => (fun (k : Nat) => (k : Int) ≤ F.T.ob ∧ ∀ j : Nat, j < k → (fun y : Nat => ∃ i, i < F.o.length ∧ isoXY F.T (at0 F.o (i : Int)) (y : Int)) j) s) (fun s : Nat => (fun (k : Nat) => (F.T.ob - (k : Int)).toNat) s) (0) (sub_cons rfl (sub_cons rfl (sub_cons rfl sub_nil))) rfl ⟨by omega, fun j hj => absurd hj (by omega)⟩ ?_
  rintro k hinv KL6 hKL6
  simp only [updL, List.foldl_cons, List.foldl_nil, List.set_cons_succ, List.set_cons_zero, List.cons_append, List.nil_append] at hinv hKL6 ⊢
  obtain ⟨hk, hj⟩ := hinv
  refine gc_seq fun K7 hK7 => ?_
  refine gc_seq fun K8 hK8 => ?_
  refine gc_region ?_
  refine g_v (.free rfl) rfl rfl (qt_move rfl rfl) ?_
  refine g_v (.free rfl) rfl rfl (qt_field (z := 4) (off := 5) rfl rfl Try.underlying32 rfl (by kernel_rfl) rfl) ?_
  refine g_v (.free rfl) rfl rfl (qt_field (z := 0) (off := 0) rfl rfl Try.underlying30 rfl (by kernel_rfl) rfl) ?_
  refine g_v (.free rfl) rfl rfl (qt_loadB (n := 0) rfl rfl Try.underlying2 rfl rfl rfl) ?_
  refine g_v (.free rfl) rfl rfl (qt_lss rfl rfl rfl) ?_
  refine g_nil ?_
  refine gk_then (hK8 _ _ ?_)
  refine gc_cond rfl (fun hc0 => ?_) (fun hc0 => ?_)
  · try simp only [decide_eq_true_eq, decide_eq_false_iff_not, Bool.not_eq_true', Bool.not_eq_false', Bool.not_eq_eq_eq_not, Bool.not_true, Bool.not_false, ne_eq, Decidable.not_not, Classical.not_not] at hc0
    refine gc_skip ?_
    refine gk_then (hK7 _ _ ?_)
    refine gc_seq fun K9 hK9 => ?_
    refine gc_block ?_
    refine gc_seq fun K10 hK10 => ?_
    refine gc_region ?_
    refine g_v (.free rfl) rfl rfl (qt_assign rfl rfl) ?_
    refine g_nil ?_
    refine gk_then (hK10 _ _ ?_)
    refine gc_seq fun K11 hK11 => ?_
    refine gc_seq fun K12 hK12 => ?_
    refine gc_region ?_
    refine g_v (.free rfl) rfl rfl (qt_assign rfl rfl) ?_
    refine g_nil ?_
    refine gk_then (hK12 _ _ ?_)
    refine gc_block ?_
    try simp only [List.nil_append, List.cons_append, List.append_assoc, List.set_cons_succ, List.set_cons_zero]
    refine gc_loop ([(0, _), (1, _), (3, _), (10, _)] : Env) (fun s : Nat × Bool => (fun (j : Nat) (b : Bool) => ([(4, .bool b), (5, .int .i64 (j : Int))] : Env)) s.1 s.2) (fun s : Nat × Bool => (fun (j : Nat) (b : Bool) => ([] : List (Nat × Itm))) s.1 s.2) (fun s : Nat × Bool => (fun (j : Nat) (b : Bool) => j ≤ F.o.length ∧ b = bP (∃ i, i < j ∧ isoXY F.T (at0 F.o (i : Int)) (k : Int))) s.1 s.2) (fun s : Nat × Bool => (fun (j : Nat) (b : Bool) => F.o.length - j) s.1 s.2) (0, false) (sub_cons rfl (sub_cons rfl (sub_cons rfl (sub_cons rfl (sub_cons rfl (sub_cons rfl sub_nil)))))) rfl ⟨Nat.zero_le _, (bP_f fun ⟨i, hi, _⟩ => absurd hi (by omega)).symm⟩ ?_
    rintro ⟨j, b⟩ hinv KL13 hKL13
    simp only [updL, List.foldl_cons, List.foldl_nil, List.set_cons_succ, List.set_cons_zero, List.cons_append, List.nil_append] at hinv hKL13 ⊢
    obtain ⟨hjl, hb⟩ := hinv
    refine gc_seq fun K14 hK14 => ?_
    refine gc_seq fun K15 hK15 => ?_
    refine gc_region ?_
    refine g_v (.free rfl) rfl rfl (qt_move rfl rfl) ?_
    refine g_v (.free rfl) rfl rfl (qt_field (z := 0) (off := 10) rfl rfl Try.underlying32 rfl (by kernel_rfl) rfl) ?_
    refine g_v (.free rfl) rfl rfl (qt_loadB (n := 0) rfl rfl Try.underlying22 rfl rfl rfl) ?_
    refine g_v (.free rfl) rfl rfl (qt_len rfl rfl ulE1 (fun w M => lenV_rd h9)) ?_
    refine g_v (.free rfl) rfl rfl (qt_lss rfl rfl rfl) ?_
    refine g_nil ?_
    refine gk_then (hK15 _ _ ?_)
    refine gc_cond rfl (fun hc1 => ?_) (fun hc1 => ?_)
    · try simp only [decide_eq_true_eq, decide_eq_false_iff_not, Bool.not_eq_true', Bool.not_eq_false', Bool.not_eq_eq_eq_not, Bool.not_true, Bool.not_false, ne_eq, Decidable.not_not, Classical.not_not] at hc1
      refine gc_skip ?_
      refine gk_then (hK14 _ _ ?_)
      refine gc_seq fun K16 hK16 => ?_
      refine gc_block ?_
      refine gc_draw (by kernel_rfl) ?_
      refine gd_v (.free rfl) rfl rfl (qt_move rfl rfl) ?_
      refine gd_splitv (.free rfl) rfl rfl (qt_move rfl rfl) (fun hs8_1 => ?_) (fun hs8_1 => ?_)
      · try simp only [decide_eq_true_eq, decide_eq_false_iff_not, Bool.not_eq_true', Bool.not_eq_false', Bool.not_eq_eq_eq_not, Bool.not_true, Bool.not_false, ne_eq, Decidable.not_not, Classical.not_not] at hs8_1
        refine gd_skip (.not _ _ _ _ rfl rfl rfl rfl) rfl rfl ?_
        refine gd_skip (.not _ _ _ _ rfl rfl rfl rfl) rfl rfl ?_
        refine gd_skip (.not _ _ _ _ rfl rfl rfl rfl) rfl rfl ?_
        refine gd_skip (.not _ _ _ _ rfl rfl rfl rfl) rfl rfl ?_
        refine gd_skip (.not _ _ _ _ rfl rfl rfl rfl) rfl rfl ?_
        refine gd_skip (.not _ _ _ _ rfl rfl rfl rfl) rfl rfl ?_
        refine gd_skip (.not _ _ _ _ rfl rfl rfl rfl) rfl rfl ?_
        refine gd_skip (.not _ _ _ _ rfl rfl rfl rfl) rfl rfl ?_
        refine gd_skip (.not _ _ _ _ rfl rfl rfl rfl) rfl rfl ?_
        refine gd_v (.free rfl) rfl rfl (qt_pick_t rfl rfl rfl) ?_
        refine gd_v (.free rfl) rfl rfl (qt_assign rfl rfl) ?_
        refine gd_nil ?_
        refine gk_block ?_
        refine gk_then (hK16 _ _ ?_)
        refine gc_region ?_
        refine g_v (.free rfl) rfl rfl (qt_move rfl rfl) ?_
        refine g_v (.free rfl) rfl rfl (qt_add rfl rfl rfl (by omega)) ?_
        refine g_v (.free rfl) rfl rfl (qt_assign rfl rfl) ?_
        refine g_nil ?_
        refine gk_then (gk_take 1 ?_)
        refine gk_sub ?hs_17 (hKL13 (j + 1, true) ?hi_17 ?hm_17)
        case hs_17 => exact (sub_cons rfl (sub_cons rfl (sub_cons rfl (sub_cons rfl (sub_cons rfl (sub_cons rfl sub_nil))))))
        case hi_17 => exact ⟨by omega, (bP_t (ex_snoc.2 (.inl (bP_t' (by rw [← hb]; exact hs8_1))))).symm⟩
        case hm_17 => omega
      · try simp only [decide_eq_true_eq, decide_eq_false_iff_not, Bool.not_eq_true', Bool.not_eq_false', Bool.not_eq_eq_eq_not, Bool.not_true, Bool.not_false, ne_eq, Decidable.not_not, Classical.not_not] at hs8_1
        refine gd_v (.held _ _ _ rfl rfl rfl) rfl rfl (qt_field (z := 4) (off := 5) rfl rfl Try.underlying32 rfl (by kernel_rfl) rfl) ?_
        refine gd_v (.held _ _ _ rfl rfl rfl) rfl rfl (qt_loadP (n := 0) (z := 5) rfl rfl Try.underlying30 rfl (by kernel_rfl) rfl (by first | decide | exact Nat.le_refl _ | simp)) ?_
        refine gd_v (.held _ _ _ rfl rfl rfl) rfl rfl (qt_field (z := 0) (off := 10) rfl rfl Try.underlying32 rfl (by kernel_rfl) rfl) ?_
        refine gd_v (.held _ _ _ rfl rfl rfl) rfl rfl (qt_loadB (n := 0) rfl rfl Try.underlying22 rfl rfl rfl) ?_
        refine gd_v (.held _ _ _ rfl rfl rfl) rfl rfl (qt_move rfl rfl) ?_
        refine gd_v (.held _ _ _ rfl rfl rfl) rfl rfl (qt_index rfl rfl rfl ulE1 szE1 (fun w M => lenA_rd h9) (by omega) (by omega)) ?_
        refine gd_v (.held _ _ _ rfl rfl rfl) rfl rfl (qt_load1 rfl rfl Try.underlying2 rfl (fun w M => mem_rd M h9) (by omega) (by omega)) ?_
        refine gd_v (.held _ _ _ rfl rfl rfl) rfl rfl (qt_move rfl rfl) ?_
        refine gd_q (.held _ _ _ rfl rfl rfl) rfl rfl (qt_call rfl Try.func124 rfl (by decide) rfl (fun w M => specAlike_any w _ (F.T) _ _ (rdC_mk (mem_rd M h5) (mem_rd M h6) (mem_rd M h7) (mem_rd2 M h8)) (by first | assumption | omega))) ?_
        refine gd_v (.free rfl) rfl rfl (qt_pick_f rfl rfl rfl) ?_
        refine gd_v (.free rfl) rfl rfl (qt_assign rfl rfl) ?_
        refine gd_nil ?_
        refine gk_block ?_
        refine gk_then (hK16 _ _ ?_)
        refine gc_region ?_
        refine g_v (.free rfl) rfl rfl (qt_move rfl rfl) ?_
        refine g_v (.free rfl) rfl rfl (qt_add rfl rfl rfl (by omega)) ?_
        refine g_v (.free rfl) rfl rfl (qt_assign rfl rfl) ?_
        refine g_nil ?_
        refine gk_then (gk_take 1 ?_)
        refine gk_sub ?hs_18 (hKL13 (j + 1, bP (isoXY F.T (at0 F.o (j : Int)) (k : Int))) ?hi_18 ?hm_18)
        case hs_18 => exact (sub_cons rfl (sub_cons rfl (sub_cons rfl (sub_cons rfl (sub_cons rfl (sub_cons rfl sub_nil))))))
        case hi_18 => exact ⟨by omega, bP_congr ⟨fun hp => ex_snoc.2 (.inr hp), fun hp => (ex_snoc.1 hp).elim (fun h => absurd h (bP_f' (by rw [← hb]; exact hs8_1))) id⟩⟩
        case hm_18 => omega
    · try simp only [decide_eq_true_eq, decide_eq_false_iff_not, Bool.not_eq_true', Bool.not_eq_false', Bool.not_eq_eq_eq_not, Bool.not_true, Bool.not_false, ne_eq, Decidable.not_not, Classical.not_not] at hc1
      refine gc_exit ?_
      refine gk_then_exit ?_
      refine gk_then_exit ?_
      refine gk_block_hit ?_
      refine gk_then (hK11 _ _ ?_)
      refine gc_seq fun K19 hK19 => ?_
      refine gc_region ?_
      refine g_v (.free rfl) rfl rfl (qt_move rfl rfl) ?_
      refine g_v (.free rfl) rfl rfl (qt_not rfl rfl) ?_
      refine g_nil ?_
      refine gk_then (hK19 _ _ ?_)
      refine gc_cond rfl (fun hc2 => ?_) (fun hc2 => ?_)
      · try simp only [decide_eq_true_eq, decide_eq_false_iff_not, Bool.not_eq_true', Bool.not_eq_false', Bool.not_eq_eq_eq_not, Bool.not_true, Bool.not_false, ne_eq, Decidable.not_not, Classical.not_not] at hc2
        refine gc_seq fun K20 hK20 => ?_
        refine gc_region ?_
        refine g_v (.free rfl) rfl rfl (qt_assign rfl rfl) ?_
        refine g_nil ?_
        refine gk_then (hK20 _ _ ?_)
        refine gc_ret ?_
        refine gk_block_ret ?_
        refine gk_then_ret ?_
        refine gk_then_ret ?_
        refine gk_block_ret ?_
        refine gk_then_ret ?_
        refine ret_1 rfl rfl  (fun w M => ?_)
        rw [bP_f fun hq => bP_f' (hb.symm.trans hc2) (by obtain ⟨i, hi, hh⟩ := hq k (by omega); exact ⟨i, by omega, hh⟩)]; exact ⟨rfl, M.1⟩
      · try simp only [decide_eq_true_eq, decide_eq_false_iff_not, Bool.not_eq_true', Bool.not_eq_false', Bool.not_eq_eq_eq_not, Bool.not_true, Bool.not_false, ne_eq, Decidable.not_not, Classical.not_not] at hc2
        have hbt := bP_t' (hb.symm.trans hc2)
        refine gc_skip ?_
        refine gk_block ?_
        refine gk_then (hK9 _ _ ?_)
        refine gc_region ?_
        refine g_v (.free rfl) rfl rfl (qt_move rfl rfl) ?_
        refine g_v (.free rfl) rfl rfl (qt_add rfl rfl rfl (by omega)) ?_
        refine g_v (.free rfl) rfl rfl (qt_assign rfl rfl) ?_
        refine g_nil ?_
        refine gk_then (gk_take 1 ?_)
        refine gk_sub ?hs_21 (hKL6 (k + 1) ?hi_21 ?hm_21)
        case hs_21 => exact (sub_cons rfl (sub_cons rfl (sub_cons rfl sub_nil)))
        case hi_21 => exact ⟨by omega, all_next0 hj (by obtain ⟨i, hi, hh⟩ := hbt; exact ⟨i, by omega, hh⟩)⟩
        case hm_21 => omega
  · try simp only [decide_eq_true_eq, decide_eq_false_iff_not, Bool.not_eq_true', Bool.not_eq_false', Bool.not_eq_eq_eq_not, Bool.not_true, Bool.not_false, ne_eq, Decidable.not_not, Classical.not_not] at hc0
    refine gc_exit ?_
    refine gk_then_exit ?_
    refine gk_then_exit ?_
    refine gk_block_hit ?_
    refine gk_then (hK4 _ _ ?_)
    refine gc_seq fun K22 hK22 => ?_
    refine gc_region ?_
    refine g_v (.free rfl) rfl rfl (qt_assign rfl rfl) ?_
    refine g_nil ?_
    refine gk_then (hK22 _ _ ?_)
    refine gc_ret ?_
    refine ret_1 rfl rfl  (fun w M => ?_)
    rw [bP_t (p := surP F) fun y hy => hj y (by omega)]; exact ⟨rfl, M.1⟩

set_option maxHeartbeats 1000000 in
set_option maxRecDepth 100000 in
theorem spec_IsEssentiallySurjective (w : World) (v : Value) (F : Fct) (h : RdF w v F) :
    Calls Try.prog 36 #[v] w (RetBI w (fIsEssentiallySurjective F).1 (fIsEssentiallySurjective F).2) := by
  have h0 := h
  obtain ⟨vx1, vx2, vx3, vx4, vx5, vx6, vx7, vx8, vx9, vx10, vk1, vk2, vk3, vk4, vk5, vk6, vk7, vk8, vk9, vk10, rfl, h1, h2, h3, h4, h5, h6, h7, h8, h9, h10⟩ := h.lists
  go_enter Try.func36, Try.ntmps36
  refine gc_enter (N := 9) rfl (look_cons (k := 0) rfl (look_nil _)) ?_
  refine gc_seq fun K1 hK1 => ?_
  refine gc_region ?_
  refine g_op (.free rfl) fun K3 hK3 => ?_
  refine go_box rfl rfl rfl rfl rfl ?_
  intro B2
  refine hK3 _ _ ?_
  refine g_v (.free rfl) rfl rfl (qt_assign rfl rfl) ?_
  refine g_v (.free rfl) rfl rfl (qt_assign rfl rfl) ?_
  refine g_nil ?_
  refine gk_then (hK1 _ _ ?_)
  refine gc_seq fun K4 hK4 => ?_
  refine gc_seq fun K5 hK5 => ?_
  refine gc_region ?_
  refine g_v (.free rfl) rfl rfl (qt_loadS (n := 0) rfl rfl Try.underlying32 rfl (by kernel_rfl) rfl) ?_
  refine g_q (.free rfl) rfl rfl (qt_call rfl Try.func52 rfl (by decide) rfl (fun w M => specIsF_any w _ _ (mem_rdF M h0))) ?_
  refine g_v (.free rfl) rfl rfl (qt_not rfl rfl) ?_
  refine g_nil ?_
  refine gk_then (hK5 _ _ ?_)
  refine gc_cond rfl (fun hc0 => ?_) (fun hc0 => ?_)
  · try simp only [decide_eq_true_eq, decide_eq_false_iff_not, Bool.not_eq_true', Bool.not_eq_false', Bool.not_eq_eq_eq_not, Bool.not_true, Bool.not_false, ne_eq, Decidable.not_not, Classical.not_not] at hc0
    refine gc_seq fun K6 hK6 => ?_
    refine gc_region ?_
    refine g_v (.free rfl) rfl rfl (qt_assign rfl rfl) ?_
    refine g_v (.free rfl) rfl rfl (qt_assign rfl rfl) ?_
    refine g_nil ?_
    refine gk_then (hK6 _ _ ?_)
    refine gc_ret ?_
    refine gk_then_ret ?_
    refine ret_2 rfl rfl rfl  (fun w M => ?_)
    rw [show fIsEssentiallySurjective F = (false, 1) from by unfold fIsEssentiallySurjective; rw [askB_f hc0, (fctErr_f hc0).1]]; exact ⟨rfl, M.1⟩
  · try simp only [decide_eq_true_eq, decide_eq_false_iff_not, Bool.not_eq_true', Bool.not_eq_false', Bool.not_eq_eq_eq_not, Bool.not_true, Bool.not_false, ne_eq, Decidable.not_not, Classical.not_not] at hc0
    refine gc_skip ?_
    refine gk_then (hK4 _ _ ?_)
    refine gc_seq fun K7 hK7 => ?_
    refine gc_region ?_
    refine g_v (.free rfl) rfl rfl (qt_loadS (n := 0) rfl rfl Try.underlying32 rfl (by kernel_rfl) rfl) ?_
    refine g_q (.free rfl) rfl rfl (qt_call rfl Try.func84 rfl (by decide) rfl (fun w M => specSurF_any w _ _ (mem_rdF M h0) (hc0))) ?_
    refine g_v (.free rfl) rfl rfl (qt_assign rfl rfl) ?_
    refine g_v (.free rfl) rfl rfl (qt_assign rfl rfl) ?_
    refine g_nil ?_
    refine gk_then (hK7 _ _ ?_)
    refine gc_ret ?_
    refine ret_2 rfl rfl rfl  (fun w M => ?_)
    rw [show fIsEssentiallySurjective F = (bP (surP F), 0) from by unfold fIsEssentiallySurjective; rw [askB_t hc0, (fctErr_t hc0).1]]; exact ⟨rfl, M.1⟩

set_option maxHeartbeats 1000000 in
set_option maxRecDepth 100000 in
theorem impl_IsEssentiallySurjective (w : World) (v : Value) (F : Fct) (h : RdF w v F) :
    Calls Try.prog 37 #[v] w (RetBI w (fIsEssentiallySurjective F).1 (fIsEssentiallySurjective F).2) := by
  have h0 := h
  obtain ⟨vx1, vx2, vx3, vx4, vx5, vx6, vx7, vx8, vx9, vx10, vk1, vk2, vk3, vk4, vk5, vk6, vk7, vk8, vk9, vk10, rfl, h1, h2, h3, h4, h5, h6, h7, h8, h9, h10⟩ := h.lists
  go_enter Try.func37, Try.ntmps37
  refine gc_enter (N := 8) rfl (look_cons (k := 0) rfl (look_nil _)) ?_
  refine gc_seq fun K1 hK1 => ?_
  refine gc_region ?_
  refine g_op (.free rfl) fun K3 hK3 => ?_
  refine go_box rfl rfl rfl rfl rfl ?_
  intro B2
  refine hK3 _ _ ?_
  refine g_v (.free rfl) rfl rfl (qt_assign rfl rfl) ?_
  refine g_v (.free rfl) rfl rfl (qt_assign rfl rfl) ?_
  refine g_nil ?_
  refine gk_then (hK1 _ _ ?_)
  refine gc_seq fun K4 hK4 => ?_
  refine gc_region ?_
  refine g_v (.free rfl) rfl rfl (qt_loadS (n := 0) rfl rfl Try.underlying32 rfl (by kernel_rfl) rfl) ?_
  refine g_q (.free rfl) rfl rfl (qt_call rfl Try.func80 rfl (by decide) rfl (fun w M => askB_any w _ _ (mem_rdF M h0) (_) (bP (surP F)) (fun hI w' hb v h => callsV_f (bnd := []) (vs := [_]) (caps := []) Try.func85 rfl (by decide) (isSurF_any w' v F h hI)))) ?_
  refine g_v (.free rfl) rfl rfl (qt_extract rfl rfl rfl) ?_
  refine g_v (.free rfl) rfl rfl (qt_extract rfl rfl rfl) ?_
  refine g_v (.free rfl) rfl rfl (qt_assign rfl rfl) ?_
  refine g_v (.free rfl) rfl rfl (qt_assign rfl rfl) ?_
  refine g_nil ?_
  refine gk_then (hK4 _ _ ?_)
  refine gc_ret ?_
  refine ret_2 rfl rfl rfl  (fun w M => ?_)
  exact ⟨rfl, M.1⟩
end

section
theorem eqA_pairOf_arrowEnds_int64 (a1 a2 a3 b1 b2 b3 : Int) (w : World) : (Op.equalIn 10000 110 (.agg #[.int .i64 a1, .int .i64 a2, .int .i64 a3]) (.agg #[.int .i64 b1, .int .i64 b2, .int .i64 b3])).run Try.prog w = .ok (decide (a1 = b1 ∧ a2 = b2 ∧ a3 = b3)) w := by
  rw [← bP_dec]; exact eqk_int a1 a2 b1 b2 a3 b3 w
theorem eqG_pairOf_arrowEnds_int64 : Try.prog.eqGuardType Try.prog.depth 110 = false := by kernel_rfl
def isE (es : List (Ent Int)) (x y l : Int) (i : Nat) : Prop := x = (atE es (i : Int)).1 ∧ y = (atE es (i : Int)).2.1 ∧ l = (atE es (i : Int)).2.2
def HasL (F : Fct) (x y g : Int) : Prop := ∃ j : Nat, j < F.a.length ∧ at0 F.S.s (j : Int) = x ∧ at0 F.S.t (j : Int) = y ∧ at0 F.a (j : Int) = g
theorem hasL_pl {F : Fct} {x y g : Int} : (∃ i, i < (plE F).length ∧ isE (plE F) x y g i) ↔ HasL F x y g := by
  constructor
  · rintro ⟨i, hi, h1, h2, h3⟩
    rw [plE_len] at hi
    rw [plE_at hi] at h1 h2 h3
    exact ⟨i, hi, h1.symm, h2.symm, h3.symm⟩
  · rintro ⟨j, hj, h1, h2, h3⟩
    refine ⟨j, by rw [plE_len]; exact hj, ?_⟩
    unfold isE; rw [plE_at hj]
    exact ⟨h1.symm, h2.symm, h3.symm⟩
theorem hasL_then {F : Fct} (la : F.a.length = F.S.s.length) {x y g : Int} : g ∈ thenL (homXY F.S x y) F.a ↔ HasL F x y g := by
  unfold thenL homXY
  rw [List.mem_map]
  constructor
  · rintro ⟨f, hf, hg⟩
    obtain ⟨j, h1, h2, h3, h4⟩ := mem_homTo.1 hf
    refine ⟨j, by omega, h3, h4, ?_⟩
    subst h2; exact hg
  · rintro ⟨j, hj, h1, h2, h3⟩
    exact ⟨(j : Int), mem_homTo.2 ⟨j, by omega, rfl, h1, h2⟩, h3⟩
def fullAt (F : Fct) (x y : Nat) : Prop := ∀ i, i < (homXY F.T (at0 F.o (x : Int)) (at0 F.o (y : Int))).length → HasL F (x : Int) (y : Int) (at0 (homXY F.T (at0 F.o (x : Int)) (at0 F.o (y : Int))) (i : Int))
def fullP (F : Fct) : Prop := ∀ x : Nat, (x : Int) < F.S.ob → ∀ y : Nat, (y : Int) < F.S.ob → fullAt F x y
noncomputable def fIsFull (F : Fct) : Bool × Int := (askB F (bP (fullP F)), fctErr F)
theorem homXY_all {F : Fct} (la : F.a.length = F.S.s.length) (x y : Int) : AllP F.a.length (homXY F.S x y) := fun f hf => by
  obtain ⟨j, h1, h2, h3, h4⟩ := mem_homTo.1 hf
  subst h2; omega

set_option maxHeartbeats 1000000 in
set_option maxRecDepth 100000 in
theorem idxE_any (w : World) (va : Value) (es : List (Ent Int)) (hE : RdE lab_int w va es) (hl : es.length ≤ 100000) (x y l : Int) :
    Calls Try.prog 150 #[va, .agg #[.int .i64 x, .int .i64 y, .int .i64 l]] w (RetI w (idxG (isE es x y l) es.length)) := by
  obtain ⟨aa, ac, rfl⟩ := lenV_E hE
  go_enter Try.func150, Try.ntmps150
  refine gc_enter (N := 19) rfl (look_cons (k := 0) rfl (look_cons (k := 1) rfl (look_nil _))) ?_
  refine gc_seq fun K1 hK1 => ?_
  refine gc_region ?_
  refine g_op (.free rfl) fun K3 hK3 => ?_
  refine go_box rfl rfl rfl rfl rfl ?_
  intro B2
  refine hK3 _ _ ?_
  refine g_v (.free rfl) rfl rfl (qt_assign rfl rfl) ?_
  refine g_nil ?_
  refine gk_then (hK1 _ _ ?_)
  refine gc_seq fun K4 hK4 => ?_
  refine gc_seq fun K5 hK5 => ?_
  refine gc_region ?_
  refine g_v (.free rfl) rfl rfl (qt_move rfl rfl) ?_
  refine g_v (.free rfl) rfl rfl (qt_len rfl rfl (lab_ul lab_int) (fun w M => lenV_E (mem_rdE M hE))) ?_
  refine g_v (.free rfl) rfl rfl (qt_move rfl rfl) ?_
  refine g_nil ?_
  refine gk_then (hK5 _ _ ?_)
  refine gc_block ?_
  try simp only [List.nil_append, List.cons_append, List.append_assoc, List.set_cons_succ, List.set_cons_zero]
  refine gc_loop ([(0, _), (1, _), (3, _), (7, _)] : Env) (fun s : Nat => (fun (k : Nat) => ([(8, .int .i64 (k : Int))] : Env)) s) (fun s : Nat => (fun (k : Nat) => ([] : List (Nat × Itm))) s) (fun s : Nat => (fun (k : Nat) => k ≤ es.length ∧ ∀ j : Nat, j < k → ¬ isE es x y l j) s) (fun s : Nat => (fun (k : Nat) => es.length - k) s) (0) (sub_cons rfl (sub_cons rfl (sub_cons rfl (sub_cons rfl (sub_cons rfl sub_nil))))) rfl ⟨Nat.zero_le _, fun j hj => absurd hj (by omega)⟩ ?_
  rintro k hinv KL6 hKL6
  simp only [updL, List.foldl_cons, List.foldl_nil, List.set_cons_succ, List.set_cons_zero, List.cons_append, List.nil_append] at hinv hKL6 ⊢
  obtain ⟨hk, hno⟩ := hinv
  refine gc_seq fun K7 hK7 => ?_
  refine gc_region ?_
  refine g_v (.free rfl) rfl rfl (qt_lss rfl rfl rfl) ?_
  refine g_nil ?_
  refine gk_then (hK7 _ _ ?_)
  refine gc_seq fun K8 hK8 => ?_
  refine gc_cond rfl (fun hc0 => ?_) (fun hc0 => ?_)
  · try simp only [decide_eq_true_eq, decide_eq_false_iff_not, Bool.not_eq_true', Bool.not_eq_false', Bool.not_eq_eq_eq_not, Bool.not_true, Bool.not_false, ne_eq, Decidable.not_not, Classical.not_not] at hc0
    refine gc_skip ?_
    refine gk_then (hK8 _ _ ?_)
    refine gc_seq fun K9 hK9 => ?_
    refine gc_block ?_
    refine gc_seq fun K10 hK10 => ?_
    refine gc_region ?_
    refine g_v (.free rfl) rfl rfl (qt_move rfl rfl) ?_
    refine g_v (.free rfl) rfl rfl (qt_assign rfl rfl) ?_
    refine g_nil ?_
    refine gk_then (hK10 _ _ ?_)
    refine gc_seq fun K11 hK11 => ?_
    refine gc_draw (by kernel_rfl) ?_
    refine gd_v (.free rfl) rfl rfl (qt_loadS (n := 0) rfl rfl Try.underlying110 rfl (by kernel_rfl) rfl) ?_
    refine gd_v (.free rfl) rfl rfl (qt_move rfl rfl) ?_
    refine gd_v (.free rfl) rfl rfl (qt_move rfl rfl) ?_
    refine gd_v (.free rfl) rfl rfl (qt_indexE lab_int rfl rfl rfl rfl (fun w M => lenA_E (mem_rdE M hE)) (by omega) (by omega)) ?_
    refine gd_v (.free rfl) rfl rfl (qt_loadE lab_int rfl rfl rfl (fun w M => mem_rdE M hE) (by omega) (by omega)) ?_
    refine gd_v (.free rfl) rfl rfl (qt_eqA rfl rfl rfl (fun w => eqA_pairOf_arrowEnds_int64 _ _ _ _ _ _ w) eqG_pairOf_arrowEnds_int64) ?_
    refine gd_nil ?_
    refine gk_then (hK11 _ _ ?_)
    refine gc_cond rfl (fun hc1 => ?_) (fun hc1 => ?_)
    · try simp only [decide_eq_true_eq, decide_eq_false_iff_not, Bool.not_eq_true', Bool.not_eq_false', Bool.not_eq_eq_eq_not, Bool.not_true, Bool.not_false, ne_eq, Decidable.not_not, Classical.not_not] at hc1
      refine gc_seq fun K12 hK12 => ?_
      refine gc_region ?_
      refine g_v (.free rfl) rfl rfl (qt_move rfl rfl) ?_
      refine g_v (.free rfl) rfl rfl (qt_assign rfl rfl) ?_
      refine g_nil ?_
      refine gk_then (hK12 _ _ ?_)
      refine gc_ret ?_
      refine gk_block_ret ?_
      refine gk_then_ret ?_
      refine gk_then_ret ?_
      refine gk_block_ret ?_
      refine gk_then_ret ?_
      refine ret_1 rfl rfl  (fun w M => ?_)
      rw [idxG_t (by omega) hc1 hno]; exact ⟨rfl, M.1⟩
    · try simp only [decide_eq_true_eq, decide_eq_false_iff_not, Bool.not_eq_true', Bool.not_eq_false', Bool.not_eq_eq_eq_not, Bool.not_true, Bool.not_false, ne_eq, Decidable.not_not, Classical.not_not] at hc1
      refine gc_skip ?_
      refine gk_block ?_
      refine gk_then (hK9 _ _ ?_)
      refine gc_region ?_
      refine g_v (.free rfl) rfl rfl (qt_add rfl rfl rfl (by omega)) ?_
      refine g_v (.free rfl) rfl rfl (qt_move rfl rfl) ?_
      refine g_nil ?_
      refine gk_then (gk_take 1 ?_)
      refine gk_sub ?hs_13 (hKL6 (k + 1) ?hi_13 ?hm_13)
      case hs_13 => exact (sub_cons rfl (sub_cons rfl (sub_cons rfl (sub_cons rfl (sub_cons rfl sub_nil)))))
      case hi_13 => exact ⟨by omega, all_next hno hc1⟩
      case hm_13 => omega
  · try simp only [decide_eq_true_eq, decide_eq_false_iff_not, Bool.not_eq_true', Bool.not_eq_false', Bool.not_eq_eq_eq_not, Bool.not_true, Bool.not_false, ne_eq, Decidable.not_not, Classical.not_not] at hc0
    refine gc_exit ?_
    refine gk_then_exit ?_
    refine gk_then_exit ?_
    refine gk_block_hit ?_
    refine gk_then (hK4 _ _ ?_)
    refine gc_seq fun K14 hK14 => ?_
    refine gc_region ?_
    refine g_v (.free rfl) rfl rfl (qt_assign rfl rfl) ?_
    refine g_nil ?_
    refine gk_then (hK14 _ _ ?_)
    refine gc_ret ?_
    refine ret_1 rfl rfl  (fun w M => ?_)
    rw [idxG_f fun j hj => hno j (by omega)]; exact ⟨rfl, M.1⟩

set_option maxHeartbeats 1000000 in
set_option maxRecDepth 100000 in
theorem conE_any (w : World) (va : Value) (es : List (Ent Int)) (hE : RdE lab_int w va es) (hl : es.length ≤ 100000) (x y l : Int) :
    Calls Try.prog 123 #[va, .agg #[.int .i64 x, .int .i64 y, .int .i64 l]] w (RetB w (bP (∃ i, i < es.length ∧ isE es x y l i))) := by
  obtain ⟨aa, ac, rfl⟩ := lenV_E hE
  go_enter Try.func123, Try.ntmps123
  refine gc_enter (N := 9) rfl (look_cons (k := 0) rfl (look_cons (k := 1) rfl (look_nil _))) ?_
  refine gc_seq fun K1 hK1 => ?_
  refine gc_region ?_
  refine g_op (.free rfl) fun K3 hK3 => ?_
  refine go_box rfl rfl rfl rfl rfl ?_
  intro B2
  refine hK3 _ _ ?_
  refine g_v (.free rfl) rfl rfl (qt_assign rfl rfl) ?_
  refine g_nil ?_
  refine gk_then (hK1 _ _ ?_)
  refine gc_seq fun K4 hK4 => ?_
  refine gc_region ?_
  refine g_v (.free rfl) rfl rfl (qt_move rfl rfl) ?_
  refine g_v (.free rfl) rfl rfl (qt_loadS (n := 0) rfl rfl Try.underlying110 rfl (by kernel_rfl) rfl) ?_
  refine g_q (.free rfl) rfl rfl (qt_call rfl Try.func150 rfl (by decide) rfl (fun w M => idxE_any w (_) (es) (mem_rdE M hE) (by first | assumption | omega) (x) (y) (l))) ?_
  refine g_v (.free rfl) rfl rfl (qt_geq rfl rfl rfl) ?_
  refine g_v (.free rfl) rfl rfl (qt_assign rfl rfl) ?_
  refine g_nil ?_
  refine gk_then (hK4 _ _ ?_)
  refine gc_ret ?_
  refine ret_1 rfl rfl  (fun w M => ?_)
  rw [idxG_ex]; exact ⟨rfl, M.1⟩

set_option maxHeartbeats 1000000 in
set_option maxRecDepth 100000 in
theorem isFullF_any (w : World) (v : Value) (F : Fct) (h : RdF w v F) (hI : fIsFunctor F = true) :
    Calls Try.prog 83 #[v] w (RetB w (bP (fullP F))) := by
  have h0 := h
  obtain ⟨vx1, vx2, vx3, vx4, vx5, vx6, vx7, vx8, vx9, vx10, vk1, vk2, vk3, vk4, vk5, vk6, vk7, vk8, vk9, vk10, rfl, h1, h2, h3, h4, h5, h6, h7, h8, h9, h10⟩ := h.lists
  have hF := isf_of hI
  have hS := (isCat_of hF.cs).toShapeP
  have hT := (isCat_of hF.ct).toShapeP
  have hn40 := hS.n40; have htl := hS.tl; have hob0 := hS.ob0; have hob8 := hS.ob8; have hm40 := hT.n40
  have hlo := hF.lo; have hla := hF.la
  have la : F.a.length = F.S.s.length := by omega
  go_enter Try.func83, Try.ntmps83
  refine gc_enter (N := 52) rfl (look_cons (k := 0) rfl (look_nil _)) ?_
  refine gc_seq fun K1 hK1 => ?_
  refine gc_region ?_
  refine g_op (.free rfl) fun K3 hK3 => ?_
  refine go_box rfl rfl rfl rfl rfl ?_
  intro B2
  refine hK3 _ _ ?_
  refine g_v (.free rfl) rfl rfl (qt_assign rfl rfl) ?_
  refine g_nil ?_
  refine gk_then (hK1 _ _ ?_)
  refine gc_seq fun K4 hK4 => ?_
  refine gc_region ?_
  refine g_v (.free rfl) rfl rfl (qt_loadS (n := 0) rfl rfl Try.underlying32 rfl (by kernel_rfl) rfl) ?_
  refine g_op (.free rfl) fun K6 hK6 => ?_
  refine go_callEn rfl rfl rfl Try.func121 rfl (by decide) rfl (fun w M => placed_any w _ _ (mem_rdF M h0) (by first | assumption | omega)) ?_
  intro va5 vc5
  refine hK6 _ _ ?_
  refine g_v (.free rfl) rfl rfl (qt_assign rfl rfl) ?_
  refine g_nil ?_
  refine gk_then (hK4 _ _ ?_)
  refine gc_seq fun K7 hK7 => ?_
  refine gc_seq fun K8 hK8 => ?_
  refine gc_region ?_
  refine g_v (.free rfl) rfl rfl (qt_field (z := 4) (off := 0) rfl rfl Try.underlying32 rfl (by kernel_rfl) rfl) ?_
  refine g_v (.free rfl) rfl rfl (qt_field (z := 0) (off := 0) rfl rfl Try.underlying30 rfl (by kernel_rfl) rfl) ?_
  refine g_v (.free rfl) rfl rfl (qt_loadB (n := 0) rfl rfl Try.underlying2 rfl rfl rfl) ?_
  refine g_v (.free rfl) rfl rfl (qt_move rfl rfl) ?_
  refine g_nil ?_
  refine gk_then (hK8 _ _ ?_)
  refine gc_block ?_
  try simp only [List.nil_append, List.cons_append, List.append_assoc, List.set_cons_succ, List.set_cons_zero]
  refine gc_loop ([(0, _), (1, _), (3, _), (12, _)] : Env) (fun s : Nat => (fun (k : Nat) => ([(13, .int .i64 (k : Int))] : Env)) s) (fun s : Nat => (fun (k : Nat) => ([] : List (Nat × Itm))) s) (fun s : Nat => (fun (k : Nat) => (k : Int) ≤ F.S.ob ∧ ∀ x : Nat, x < k → ∀ y : Nat, (y : Int) < F.S.ob → fullAt F x y) s) (fun s : Nat => (fun (k : Nat) => (F.S.ob - (k : Int)).toNat) s) (0) (sub_cons rfl (sub_cons rfl (sub_cons rfl (sub_cons rfl (sub_cons rfl sub_nil))))) rfl ⟨by omega, fun j hj => absurd hj (by omega)⟩ ?_
  rintro k hinv KL9 hKL9
  simp only [updL, List.foldl_cons, List.foldl_nil, List.set_cons_succ, List.set_cons_zero, List.cons_append, List.nil_append] at hinv hKL9 ⊢
  obtain ⟨hk, hj⟩ := hinv
  refine gc_seq fun K10 hK10 => ?_
  refine gc_region ?_
  refine g_v (.free rfl) rfl rfl (qt_lss rfl rfl rfl) ?_
  refine g_nil ?_
  refine gk_then (hK10 _ _ ?_)
  refine gc_seq fun K11 hK11 => ?_
  refine gc_cond rfl (fun hc0 => ?_) (fun hc0 => ?_)
  · try simp only [decide_eq_true_eq, decide_eq_false_iff_not, Bool.not_eq_true', Bool.not_eq_false', Bool.not_eq_eq_eq_not, Bool.not_true, Bool.not_false, ne_eq, Decidable.not_not, Classical.not_not] at hc0
    refine gc_skip ?_
    refine gk_then (hK11 _ _ ?_)
    refine gc_seq fun K12 hK12 => ?_
    refine gc_block ?_
    refine gc_seq fun K13 hK13 => ?_
    refine gc_region ?_
    refine g_v (.free rfl) rfl rfl (qt_move rfl rfl) ?_
    refine g_v (.free rfl) rfl rfl (qt_assign rfl rfl) ?_
    refine g_nil ?_
    refine gk_then (hK13 _ _ ?_)
    refine gc_seq fun K14 hK14 => ?_
    refine gc_region ?_
    refine g_v (.free rfl) rfl rfl (qt_field (z := 4) (off := 0) rfl rfl Try.underlying32 rfl (by kernel_rfl) rfl) ?_
    refine g_v (.free rfl) rfl rfl (qt_field (z := 0) (off := 0) rfl rfl Try.underlying30 rfl (by kernel_rfl) rfl) ?_
    refine g_v (.free rfl) rfl rfl (qt_loadB (n := 0) rfl rfl Try.underlying2 rfl rfl rfl) ?_
    refine g_v (.free rfl) rfl rfl (qt_move rfl rfl) ?_
    refine g_nil ?_
    refine gk_then (hK14 _ _ ?_)
    refine gc_block ?_
    try simp only [List.nil_append, List.cons_append, List.append_assoc, List.set_cons_succ, List.set_cons_zero]
    refine gc_loop ([(0, _), (1, _), (3, _), (4, _), (12, _), (13, _), (14, _), (18, _)] : Env) (fun s : Nat => (fun (g : Nat) => ([(19, .int .i64 (g : Int))] : Env)) s) (fun s : Nat => (fun (g : Nat) => ([] : List (Nat × Itm))) s) (fun s : Nat => (fun (g : Nat) => (g : Int) ≤ F.S.ob ∧ ∀ y : Nat, y < g → fullAt F k y) s) (fun s : Nat => (fun (g : Nat) => (F.S.ob - (g : Int)).toNat) s) (0) (sub_cons rfl (sub_cons rfl (sub_cons rfl (sub_cons rfl (sub_cons rfl (sub_cons rfl (sub_cons rfl (sub_cons rfl (sub_cons rfl sub_nil))))))))) rfl ⟨by omega, fun j hj => absurd hj (by omega)⟩ ?_
    rintro g hinv KL15 hKL15
    simp only [updL, List.foldl_cons, List.foldl_nil, List.set_cons_succ, List.set_cons_zero, List.cons_append, List.nil_append] at hinv hKL15 ⊢
    obtain ⟨hg, hi⟩ := hinv
    refine gc_seq fun K16 hK16 => ?_
    refine gc_region ?_
    refine g_v (.free rfl) rfl rfl (qt_lss rfl rfl rfl) ?_
    refine g_nil ?_
    refine gk_then (hK16 _ _ ?_)
    refine gc_seq fun K17 hK17 => ?_
    refine gc_cond rfl (fun hc1 => ?_) (fun hc1 => ?_)
    · try simp only [decide_eq_true_eq, decide_eq_false_iff_not, Bool.not_eq_true', Bool.not_eq_false', Bool.not_eq_eq_eq_not, Bool.not_true, Bool.not_false, ne_eq, Decidable.not_not, Classical.not_not] at hc1
      refine gc_skip ?_
      refine gk_then (hK17 _ _ ?_)
      refine gc_seq fun K18 hK18 => ?_
      refine gc_block ?_
      refine gc_seq fun K19 hK19 => ?_
      refine gc_region ?_
      refine g_v (.free rfl) rfl rfl (qt_move rfl rfl) ?_
      refine g_v (.free rfl) rfl rfl (qt_assign rfl rfl) ?_
      refine g_nil ?_
      refine gk_then (hK19 _ _ ?_)
      refine gc_seq fun K20 hK20 => ?_
      try simp only [List.nil_append, List.cons_append, List.append_assoc, List.set_cons_succ, List.set_cons_zero]
      refine ga_start _ (fun w M => M) ?_
      refine ga_v 0 rfl (by kernel_rfl) (by kernel_rfl) (by kernel_rfl) (.free rfl) rfl rfl (qt_field (z := 4) (off := 5) rfl rfl Try.underlying32 rfl (by kernel_rfl) rfl) (fun _ _ _ h => h) ?_
      refine ga_v 1 rfl (by kernel_rfl) (by kernel_rfl) (by kernel_rfl) (.free rfl) rfl rfl (qt_loadP (n := 0) (z := 5) rfl rfl Try.underlying30 rfl (by kernel_rfl) rfl (by first | decide | exact Nat.le_refl _ | simp)) (fun _ _ _ h => h) ?_
      refine ga_v 2 rfl (by kernel_rfl) (by kernel_rfl) (by kernel_rfl) (.free rfl) rfl rfl (qt_field (z := 0) (off := 10) rfl rfl Try.underlying32 rfl (by kernel_rfl) rfl) (fun _ _ _ h => h) ?_
      refine ga_v 3 rfl (by kernel_rfl) (by kernel_rfl) (by kernel_rfl) (.free rfl) rfl rfl (qt_loadB (n := 0) rfl rfl Try.underlying22 rfl rfl rfl) (fun _ _ _ h => h) ?_
      refine ga_v 4 rfl (by kernel_rfl) (by kernel_rfl) (by kernel_rfl) (.free rfl) rfl rfl (qt_move rfl rfl) (fun _ _ _ h => h) ?_
      refine ga_v 5 rfl (by kernel_rfl) (by kernel_rfl) (by kernel_rfl) (.free rfl) rfl rfl (qt_index rfl rfl rfl ulE1 szE1 (fun w M => lenA_rd h9) (by omega) (by omega)) (fun _ _ _ h => h) ?_
      refine ga_v 6 rfl (by kernel_rfl) (by kernel_rfl) (by kernel_rfl) (.free rfl) rfl rfl (qt_load1 rfl rfl Try.underlying2 rfl (fun w M => mem_rd M h9) (by omega) (by omega)) (fun _ _ _ h => h) ?_
      refine ga_v 7 rfl (by kernel_rfl) (by kernel_rfl) (by kernel_rfl) (.free rfl) rfl rfl (qt_field (z := 0) (off := 10) rfl rfl Try.underlying32 rfl (by kernel_rfl) rfl) (fun _ _ _ h => h) ?_
      refine ga_v 8 rfl (by kernel_rfl) (by kernel_rfl) (by kernel_rfl) (.free rfl) rfl rfl (qt_loadB (n := 0) rfl rfl Try.underlying22 rfl rfl rfl) (fun _ _ _ h => h) ?_
      refine ga_v 9 rfl (by kernel_rfl) (by kernel_rfl) (by kernel_rfl) (.free rfl) rfl rfl (qt_move rfl rfl) (fun _ _ _ h => h) ?_
      refine ga_v 10 rfl (by kernel_rfl) (by kernel_rfl) (by kernel_rfl) (.free rfl) rfl rfl (qt_index rfl rfl rfl ulE1 szE1 (fun w M => lenA_rd h9) (by omega) (by omega)) (fun _ _ _ h => h) ?_
      refine ga_v 11 rfl (by kernel_rfl) (by kernel_rfl) (by kernel_rfl) (.free rfl) rfl rfl (qt_load1 rfl rfl Try.underlying2 rfl (fun w M => mem_rd M h9) (by omega) (by omega)) (fun _ _ _ h => h) ?_
      refine ga_v 12 rfl (by kernel_rfl) (by kernel_rfl) (by kernel_rfl) (.free rfl) rfl rfl (qt_build rfl rfl bt_arrowEnds) (fun _ _ _ h => h) ?_
      refine ga_v 15 rfl (by kernel_rfl) (by kernel_rfl) (by kernel_rfl) (.free rfl) rfl rfl (qt_move rfl rfl) (fun _ _ _ h => h) ?_
      refine ga_op 13 (by kernel_rfl) rfl (.free rfl) fun K22 hK22 => ?_
      refine go_callL rfl rfl rfl Try.func122 rfl (by decide) rfl (fun w M => arrowsBetween_any w _ (F.T) _ _ (rdC_mk (mem_rd M h5) (mem_rd M h6) (mem_rd M h7) (mem_rd2 M h8)) (by first | assumption | omega)) ?_
      intro va21 vc21
      refine hK22 _ _ (fun w M => (mem_take 2 M :)) ?_
      refine ga_op 14 (by kernel_rfl) rfl (.free rfl) fun K23 hK23 => ?_
      refine go_v rfl rfl (qt_len rfl rfl ulE1 (fun w M => lenV_own1 (n := 2) rfl M)) ?_
      refine hK23 _ _ (fun w M => (mem_take 2 M :)) ?_
      refine ga_done (by kernel_rfl) ?_
      refine gk_then (hK20 _ _ ?_)
      refine gc_block ?_
      simp only [show ∀ c x y, homTo c x y c.s.length = homXY c x y from fun _ _ _ => rfl]
      try simp only [List.nil_append, List.cons_append, List.append_assoc, List.set_cons_succ, List.set_cons_zero]
      refine gc_loop ([(0, _), (1, _), (3, _), (4, _), (5, _), (12, _), (13, _), (14, _), (18, _), (19, _), (20, _), (35, _), (36, _)] : Env) (fun s : Nat => (fun (i : Nat) => ([(37, .int .i64 (i : Int))] : Env)) s) (fun s : Nat => (fun (i : Nat) => ([] : List (Nat × Itm))) s) (fun s : Nat => (fun (i : Nat) => i ≤ (homXY F.T (at0 F.o (k : Int)) (at0 F.o (g : Int))).length ∧ ∀ q : Nat, q < i → HasL F (k : Int) (g : Int) (at0 (homXY F.T (at0 F.o (k : Int)) (at0 F.o (g : Int))) (q : Int))) s) (fun s : Nat => (fun (i : Nat) => (homXY F.T (at0 F.o (k : Int)) (at0 F.o (g : Int))).length - i) s) (0) (sub_cons rfl (sub_cons rfl (sub_cons rfl (sub_cons rfl (sub_cons rfl (sub_cons rfl (sub_cons rfl (sub_cons rfl (sub_cons rfl (sub_cons rfl (sub_cons rfl (sub_cons rfl (sub_cons rfl (sub_cons rfl sub_nil)))))))))))))) rfl ⟨Nat.zero_le _, fun j hj => absurd hj (by omega)⟩ ?_
      rintro i hinv KL24 hKL24
      simp only [updL, List.foldl_cons, List.foldl_nil, List.set_cons_succ, List.set_cons_zero, List.cons_append, List.nil_append] at hinv hKL24 ⊢
      obtain ⟨hil, hr⟩ := hinv
      have hxl := homXY_len F.T (at0 F.o (k : Int)) (at0 F.o (g : Int))
      refine gc_seq fun K25 hK25 => ?_
      refine gc_region ?_
      refine g_v (.free rfl) rfl rfl (qt_lss rfl rfl rfl) ?_
      refine g_nil ?_
      refine gk_then (hK25 _ _ ?_)
      refine gc_seq fun K26 hK26 => ?_
      refine gc_cond rfl (fun hc2 => ?_) (fun hc2 => ?_)
      · try simp only [decide_eq_true_eq, decide_eq_false_iff_not, Bool.not_eq_true', Bool.not_eq_false', Bool.not_eq_eq_eq_not, Bool.not_true, Bool.not_false, ne_eq, Decidable.not_not, Classical.not_not] at hc2
        refine gc_skip ?_
        refine gk_then (hK26 _ _ ?_)
        refine gc_seq fun K27 hK27 => ?_
        refine gc_block ?_
        refine gc_seq fun K28 hK28 => ?_
        refine gc_region ?_
        refine g_v (.free rfl) rfl rfl (qt_index rfl rfl rfl ulE1 szE1 (fun w M => lenA_own1 (n := 2) rfl M) (by omega) (by omega)) ?_
        refine g_v (.free rfl) rfl rfl (qt_load1 rfl rfl Try.underlying2 rfl (fun w M => (mem_own1 (n := 2) M rfl).rd) (by omega) (by omega)) ?_
        refine g_v (.free rfl) rfl rfl (qt_assign rfl rfl) ?_
        refine g_nil ?_
        refine gk_then (hK28 _ _ ?_)
        refine gc_seq fun K29 hK29 => ?_
        refine gc_region ?_
        refine g_v (.free rfl) rfl rfl (qt_move rfl rfl) ?_
        refine g_v (.free rfl) rfl rfl (qt_move rfl rfl) ?_
        refine g_v (.free rfl) rfl rfl (qt_move rfl rfl) ?_
        refine g_v (.free rfl) rfl rfl (qt_build rfl rfl bt_arrowEnds) ?_
        refine g_v (.free rfl) rfl rfl (qt_move rfl rfl) ?_
        refine g_v (.free rfl) rfl rfl (qt_build rfl rfl bt_pairOf_arrowEnds_int64) ?_
        refine g_q (.free rfl) rfl rfl (qt_call rfl Try.func123 rfl (by decide) rfl (fun w M => conE_any w (_) (plE F) (mem_ownE (n := 1) M rfl) (by rw [plE_len]; omega) (k : Int) (g : Int) (_))) ?_
        refine g_v (.free rfl) rfl rfl (qt_not rfl rfl) ?_
        refine g_nil ?_
        refine gk_then (hK29 _ _ ?_)
        refine gc_cond rfl (fun hc3 => ?_) (fun hc3 => ?_)
        · try simp only [decide_eq_true_eq, decide_eq_false_iff_not, Bool.not_eq_true', Bool.not_eq_false', Bool.not_eq_eq_eq_not, Bool.not_true, Bool.not_false, ne_eq, Decidable.not_not, Classical.not_not] at hc3
          refine gc_seq fun K30 hK30 => ?_
          refine gc_region ?_
          refine g_v (.free rfl) rfl rfl (qt_assign rfl rfl) ?_
          refine g_nil ?_
          refine gk_then (hK30 _ _ ?_)
          refine gc_ret ?_
          refine gk_block_ret ?_
          refine gk_then_ret ?_
          refine gk_then_ret ?_
          refine gk_block_ret ?_
          refine gk_block_ret ?_
          refine gk_then_ret ?_
          refine gk_then_ret ?_
          refine gk_block_ret ?_
          refine gk_block_ret ?_
          refine gk_then_ret ?_
          refine gk_then_ret ?_
          refine gk_block_ret ?_
          refine gk_then_ret ?_
          refine ret_1 rfl rfl  (fun w M => ?_)
          rw [bP_f fun hq => bP_f' hc3 (hasL_pl.2 (hq k (by omega) g (by omega) i (by omega)))]; exact ⟨rfl, M.1⟩
        · try simp only [decide_eq_true_eq, decide_eq_false_iff_not, Bool.not_eq_true', Bool.not_eq_false', Bool.not_eq_eq_eq_not, Bool.not_true, Bool.not_false, ne_eq, Decidable.not_not, Classical.not_not] at hc3
          refine gc_skip ?_
          refine gk_block ?_
          refine gk_then (hK27 _ _ ?_)
          refine gc_region ?_
          refine g_v (.free rfl) rfl rfl (qt_add rfl rfl rfl (by omega)) ?_
          refine g_v (.free rfl) rfl rfl (qt_move rfl rfl) ?_
          refine g_nil ?_
          refine gk_then (gk_take 3 ?_)
          refine gk_sub ?hs_31 (hKL24 (i + 1) ?hi_31 ?hm_31)
          case hs_31 => exact (sub_cons rfl (sub_cons rfl (sub_cons rfl (sub_cons rfl (sub_cons rfl (sub_cons rfl (sub_cons rfl (sub_cons rfl (sub_cons rfl (sub_cons rfl (sub_cons rfl (sub_cons rfl (sub_cons rfl (sub_cons rfl sub_nil))))))))))))))
          case hi_31 => exact ⟨by omega, all_next0 hr (hasL_pl.1 (bP_t' hc3))⟩
          case hm_31 => omega
      · try simp only [decide_eq_true_eq, decide_eq_false_iff_not, Bool.not_eq_true', Bool.not_eq_false', Bool.not_eq_eq_eq_not, Bool.not_true, Bool.not_false, ne_eq, Decidable.not_not, Classical.not_not] at hc2
        refine gc_exit ?_
        refine gk_then_exit ?_
        refine gk_then_exit ?_
        refine gk_block_hit ?_
        refine gk_block ?_
        refine gk_then (hK18 _ _ ?_)
        refine gc_region ?_
        refine g_v (.free rfl) rfl rfl (qt_add rfl rfl rfl (by omega)) ?_
        refine g_v (.free rfl) rfl rfl (qt_move rfl rfl) ?_
        refine g_nil ?_
        refine gk_then (gk_take 2 ?_)
        refine gk_sub ?hs_32 (hKL15 (g + 1) ?hi_32 ?hm_32)
        case hs_32 => exact (sub_cons rfl (sub_cons rfl (sub_cons rfl (sub_cons rfl (sub_cons rfl (sub_cons rfl (sub_cons rfl (sub_cons rfl (sub_cons rfl sub_nil)))))))))
        case hi_32 => exact ⟨by omega, all_next0 hi fun q hq => hr q (by omega)⟩
        case hm_32 => omega
    · try simp only [decide_eq_true_eq, decide_eq_false_iff_not, Bool.not_eq_true', Bool.not_eq_false', Bool.not_eq_eq_eq_not, Bool.not_true, Bool.not_false, ne_eq, Decidable.not_not, Classical.not_not] at hc1
      refine gc_exit ?_
      refine gk_then_exit ?_
      refine gk_then_exit ?_
      refine gk_block_hit ?_
      refine gk_block ?_
      refine gk_then (hK12 _ _ ?_)
      refine gc_region ?_
      refine g_v (.free rfl) rfl rfl (qt_add rfl rfl rfl (by omega)) ?_
      refine g_v (.free rfl) rfl rfl (qt_move rfl rfl) ?_
      refine g_nil ?_
      refine gk_then (gk_take 2 ?_)
      refine gk_sub ?hs_33 (hKL9 (k + 1) ?hi_33 ?hm_33)
      case hs_33 => exact (sub_cons rfl (sub_cons rfl (sub_cons rfl (sub_cons rfl (sub_cons rfl sub_nil)))))
      case hi_33 => exact ⟨by omega, all_next0 hj fun y hy => hi y (by omega)⟩
      case hm_33 => omega
  · try simp only [decide_eq_true_eq, decide_eq_false_iff_not, Bool.not_eq_true', Bool.not_eq_false', Bool.not_eq_eq_eq_not, Bool.not_true, Bool.not_false, ne_eq, Decidable.not_not, Classical.not_not] at hc0
    refine gc_exit ?_
    refine gk_then_exit ?_
    refine gk_then_exit ?_
    refine gk_block_hit ?_
    refine gk_then (hK7 _ _ ?_)
    refine gc_seq fun K34 hK34 => ?_
    refine gc_region ?_
    refine g_v (.free rfl) rfl rfl (qt_assign rfl rfl) ?_
    refine g_nil ?_
    refine gk_then (hK34 _ _ ?_)
    refine gc_ret ?_
    refine ret_1 rfl rfl  (fun w M => ?_)
    rw [bP_t (p := fullP F) fun x hx y hy => hj x (by omega) y hy]; exact ⟨rfl, M.1⟩

set_option maxHeartbeats 1000000 in
set_option maxRecDepth 100000 in
theorem specFull_any (w : World) (v : Value) (F : Fct) (h : RdF w v F) (hI : fIsFunctor F = true) :
    Calls Try.prog 82 #[v] w (RetB w (bP (fullP F))) := by
  have h0 := h
  obtain ⟨vx1, vx2, vx3, vx4, vx5, vx6, vx7, vx8, vx9, vx10, vk1, vk2, vk3, vk4, vk5, vk6, vk7, vk8, vk9, vk10, rfl, h1, h2, h3, h4, h5, h6, h7, h8, h9, h10⟩ := h.lists
  have hF := isf_of hI
  have hS := (isCat_of hF.cs).toShapeP
  have hT := (isCat_of hF.ct).toShapeP
  have hn40 := hS.n40; have htl := hS.tl; have hob0 := hS.ob0; have hob8 := hS.ob8; have hm40 := hT.n40
  have hlo := hF.lo; have hla := hF.la
  have la : F.a.length = F.S.s.length := by omega
  go_enter Try.func82, Try.ntmps82
  refine gc_enter (N := 56) rfl (look_cons (k := 0) rfl (look_nil _)) ?_
  refine gc_seq fun K1 hK1 => ?_
  refine gc_region ?_
  refine g_op (.free rfl) fun K3 hK3 => ?_
  refine go_box rfl rfl rfl rfl rfl ?_
  intro B2
  refine hK3 _ _ ?_
  refine g_v (.free rfl) rfl rfl (qt_assign rfl rfl) ?_
  refine g_nil ?_
  refine gk_then (hK1 _ _ ?_)
  refine gc_seq fun K4 hK4 => ?_
  refine gc_seq fun K5 hK5 => ?_
  refine gc_region ?_
  refine g_v (.free rfl) rfl rfl (qt_assign rfl rfl) ?_
  refine g_nil ?_
  refine gk_then (hK5 _ _ ?_)
  refine gc_block ?_
  try simp only [List.nil_append, List.cons_append, List.append_assoc, List.set_cons_succ, List.set_cons_zero]
  refine gc_loop ([(0, _), (1, _)] : Env) (fun s : Nat => (fun (k : Nat) => ([(3, .int .i64 (k : Int))] : Env)) s) (fun s : Nat => (fun (k : Nat) => ([] : List (Nat × Itm))) s) (fun s : Nat => (fun (k : Nat) => (k : Int) ≤ F.S.ob ∧ ∀ x : Nat, x < k → ∀ y : Nat, (y : Int) < F.S.ob → fullAt F x y) s) (fun s : Nat => (fun (k : Nat) => (F.S.ob - (k : Int)).toNat) s) (0) (sub_cons rfl (sub_cons rfl (sub_cons rfl sub_nil))) rfl ⟨by omega, fun j hj => absurd hj (by omega)⟩ ?_
  rintro k hinv KL6 hKL6
  simp only [updL, List.foldl_cons, List.foldl_nil, List.set_cons_succ, List.set_cons_zero, List.cons_append, List.nil_append] at hinv hKL6 ⊢
  obtain ⟨hk, hj⟩ := hinv
  refine gc_seq fun K7 hK7 => ?_
  refine gc_seq fun K8 hK8 => ?_
  refine gc_region ?_
  refine g_v (.free rfl) rfl rfl (qt_move rfl rfl) ?_
  refine g_v (.free rfl) rfl rfl (qt_field (z := 4) (off := 0) rfl rfl Try.underlying32 rfl (by kernel_rfl) rfl) ?_
  refine g_v (.free rfl) rfl rfl (qt_field (z := 0) (off := 0) rfl rfl Try.underlying30 rfl (by kernel_rfl) rfl) ?_
  refine g_v (.free rfl) rfl rfl (qt_loadB (n := 0) rfl rfl Try.underlying2 rfl rfl rfl) ?_
  refine g_v (.free rfl) rfl rfl (qt_lss rfl rfl rfl) ?_
  refine g_nil ?_
  refine gk_then (hK8 _ _ ?_)
  refine gc_cond rfl (fun hc0 => ?_) (fun hc0 => ?_)
  · try simp only [decide_eq_true_eq, decide_eq_false_iff_not, Bool.not_eq_true', Bool.not_eq_false', Bool.not_eq_eq_eq_not, Bool.not_true, Bool.not_false, ne_eq, Decidable.not_not, Classical.not_not] at hc0
    refine gc_skip ?_
    refine gk_then (hK7 _ _ ?_)
    refine gc_seq fun K9 hK9 => ?_
    refine gc_block ?_
    refine gc_seq fun K10 hK10 => ?_
    refine gc_region ?_
    refine g_v (.free rfl) rfl rfl (qt_assign rfl rfl) ?_
    refine g_nil ?_
    refine gk_then (hK10 _ _ ?_)
    refine gc_block ?_
    try simp only [List.nil_append, List.cons_append, List.append_assoc, List.set_cons_succ, List.set_cons_zero]
    refine gc_loop ([(0, _), (1, _), (3, _), (12, _)] : Env) (fun s : Nat => (fun (g : Nat) => ([(4, .int .i64 (g : Int))] : Env)) s) (fun s : Nat => (fun (g : Nat) => ([] : List (Nat × Itm))) s) (fun s : Nat => (fun (g : Nat) => (g : Int) ≤ F.S.ob ∧ ∀ y : Nat, y < g → fullAt F k y) s) (fun s : Nat => (fun (g : Nat) => (F.S.ob - (g : Int)).toNat) s) (0) (sub_cons rfl (sub_cons rfl (sub_cons rfl (sub_cons rfl (sub_cons rfl sub_nil))))) rfl ⟨by omega, fun j hj => absurd hj (by omega)⟩ ?_
    rintro g hinv KL11 hKL11
    simp only [updL, List.foldl_cons, List.foldl_nil, List.set_cons_succ, List.set_cons_zero, List.cons_append, List.nil_append] at hinv hKL11 ⊢
    obtain ⟨hg, hi⟩ := hinv
    refine gc_seq fun K12 hK12 => ?_
    refine gc_seq fun K13 hK13 => ?_
    refine gc_region ?_
    refine g_v (.free rfl) rfl rfl (qt_move rfl rfl) ?_
    refine g_v (.free rfl) rfl rfl (qt_field (z := 4) (off := 0) rfl rfl Try.underlying32 rfl (by kernel_rfl) rfl) ?_
    refine g_v (.free rfl) rfl rfl (qt_field (z := 0) (off := 0) rfl rfl Try.underlying30 rfl (by kernel_rfl) rfl) ?_
    refine g_v (.free rfl) rfl rfl (qt_loadB (n := 0) rfl rfl Try.underlying2 rfl rfl rfl) ?_
    refine g_v (.free rfl) rfl rfl (qt_lss rfl rfl rfl) ?_
    refine g_nil ?_
    refine gk_then (hK13 _ _ ?_)
    refine gc_cond rfl (fun hc1 => ?_) (fun hc1 => ?_)
    · try simp only [decide_eq_true_eq, decide_eq_false_iff_not, Bool.not_eq_true', Bool.not_eq_false', Bool.not_eq_eq_eq_not, Bool.not_true, Bool.not_false, ne_eq, Decidable.not_not, Classical.not_not] at hc1
      refine gc_skip ?_
      refine gk_then (hK12 _ _ ?_)
      refine gc_seq fun K14 hK14 => ?_
      refine gc_block ?_
      refine gc_seq fun K15 hK15 => ?_
      try simp only [List.nil_append, List.cons_append, List.append_assoc, List.set_cons_succ, List.set_cons_zero]
      refine ga_start _ (fun w M => M) ?_
      refine ga_v 0 rfl (by kernel_rfl) (by kernel_rfl) (by kernel_rfl) (.free rfl) rfl rfl (qt_field (z := 4) (off := 0) rfl rfl Try.underlying32 rfl (by kernel_rfl) rfl) (fun _ _ _ h => h) ?_
      refine ga_v 1 rfl (by kernel_rfl) (by kernel_rfl) (by kernel_rfl) (.free rfl) rfl rfl (qt_loadP (n := 0) (z := 5) rfl rfl Try.underlying30 rfl (by kernel_rfl) rfl (by first | decide | exact Nat.le_refl _ | simp)) (fun _ _ _ h => h) ?_
      refine ga_v 2 rfl (by kernel_rfl) (by kernel_rfl) (by kernel_rfl) (.free rfl) rfl rfl (qt_move rfl rfl) (fun _ _ _ h => h) ?_
      refine ga_v 3 rfl (by kernel_rfl) (by kernel_rfl) (by kernel_rfl) (.free rfl) rfl rfl (qt_move rfl rfl) (fun _ _ _ h => h) ?_
      refine ga_v 5 rfl (by kernel_rfl) (by kernel_rfl) (by kernel_rfl) (.free rfl) rfl rfl (qt_field (z := 0) (off := 11) rfl rfl Try.underlying32 rfl (by kernel_rfl) rfl) (fun _ _ _ h => h) ?_
      refine ga_v 6 rfl (by kernel_rfl) (by kernel_rfl) (by kernel_rfl) (.free rfl) rfl rfl (qt_loadB (n := 0) rfl rfl Try.underlying22 rfl rfl rfl) (fun _ _ _ h => h) ?_
      refine ga_op 4 (by kernel_rfl) rfl (.free rfl) fun K17 hK17 => ?_
      refine go_callL rfl rfl rfl Try.func119 rfl (by decide) rfl (fun w M => specHom_any w _ _ _ _ (rdC_mk (mem_rd M h1) (mem_rd M h2) (mem_rd M h3) (mem_rd2 M h4)) (by first | assumption | omega)) ?_
      intro va16 vc16
      refine hK17 _ _ (fun w M => (mem_take 1 M :)) ?_
      refine ga_op 7 (by kernel_rfl) rfl (.free rfl) fun K19 hK19 => ?_
      refine go_callL rfl rfl rfl Try.func114 rfl (by decide) rfl (fun w M => specThenM_any w _ _ _ _ ((mem_own1 (n := 1) M rfl).rd) (mem_rd M h10) (homXY_all la _ _)) ?_
      intro va18 vc18
      refine hK19 _ _ (fun w M => (mem_take 1 M :)) ?_
      refine ga_v 8 rfl (by kernel_rfl) (by kernel_rfl) (by kernel_rfl) (.free rfl) rfl rfl (qt_assign rfl rfl) (fun _ _ _ h => h) ?_
      refine ga_done (by kernel_rfl) ?_
      refine gk_then (hK15 _ _ ?_)
      refine gc_seq fun K20 hK20 => ?_
      try simp only [List.nil_append, List.cons_append, List.append_assoc, List.set_cons_succ, List.set_cons_zero]
      refine ga_start _ (fun w M => M) ?_
      refine ga_v 0 rfl (by kernel_rfl) (by kernel_rfl) (by kernel_rfl) (.free rfl) rfl rfl (qt_field (z := 4) (off := 5) rfl rfl Try.underlying32 rfl (by kernel_rfl) rfl) (fun _ _ _ h => h) ?_
      refine ga_v 1 rfl (by kernel_rfl) (by kernel_rfl) (by kernel_rfl) (.free rfl) rfl rfl (qt_loadP (n := 0) (z := 5) rfl rfl Try.underlying30 rfl (by kernel_rfl) rfl (by first | decide | exact Nat.le_refl _ | simp)) (fun _ _ _ h => h) ?_
      refine ga_v 2 rfl (by kernel_rfl) (by kernel_rfl) (by kernel_rfl) (.free rfl) rfl rfl (qt_field (z := 0) (off := 10) rfl rfl Try.underlying32 rfl (by kernel_rfl) rfl) (fun _ _ _ h => h) ?_
      refine ga_v 3 rfl (by kernel_rfl) (by kernel_rfl) (by kernel_rfl) (.free rfl) rfl rfl (qt_loadB (n := 0) rfl rfl Try.underlying22 rfl rfl rfl) (fun _ _ _ h => h) ?_
      refine ga_v 4 rfl (by kernel_rfl) (by kernel_rfl) (by kernel_rfl) (.free rfl) rfl rfl (qt_move rfl rfl) (fun _ _ _ h => h) ?_
      refine ga_v 5 rfl (by kernel_rfl) (by kernel_rfl) (by kernel_rfl) (.free rfl) rfl rfl (qt_index rfl rfl rfl ulE1 szE1 (fun w M => lenA_rd h9) (by omega) (by omega)) (fun _ _ _ h => h) ?_
      refine ga_v 6 rfl (by kernel_rfl) (by kernel_rfl) (by kernel_rfl) (.free rfl) rfl rfl (qt_load1 rfl rfl Try.underlying2 rfl (fun w M => mem_rd M h9) (by omega) (by omega)) (fun _ _ _ h => h) ?_
      refine ga_v 7 rfl (by kernel_rfl) (by kernel_rfl) (by kernel_rfl) (.free rfl) rfl rfl (qt_field (z := 0) (off := 10) rfl rfl Try.underlying32 rfl (by kernel_rfl) rfl) (fun _ _ _ h => h) ?_
      refine ga_v 8 rfl (by kernel_rfl) (by kernel_rfl) (by kernel_rfl) (.free rfl) rfl rfl (qt_loadB (n := 0) rfl rfl Try.underlying22 rfl rfl rfl) (fun _ _ _ h => h) ?_
      refine ga_v 9 rfl (by kernel_rfl) (by kernel_rfl) (by kernel_rfl) (.free rfl) rfl rfl (qt_move rfl rfl) (fun _ _ _ h => h) ?_
      refine ga_v 10 rfl (by kernel_rfl) (by kernel_rfl) (by kernel_rfl) (.free rfl) rfl rfl (qt_index rfl rfl rfl ulE1 szE1 (fun w M => lenA_rd h9) (by omega) (by omega)) (fun _ _ _ h => h) ?_
      refine ga_v 11 rfl (by kernel_rfl) (by kernel_rfl) (by kernel_rfl) (.free rfl) rfl rfl (qt_load1 rfl rfl Try.underlying2 rfl (fun w M => mem_rd M h9) (by omega) (by omega)) (fun _ _ _ h => h) ?_
      refine ga_op 12 (by kernel_rfl) rfl (.free rfl) fun K22 hK22 => ?_
      refine go_callL rfl rfl rfl Try.func119 rfl (by decide) rfl (fun w M => specHom_any w _ _ _ _ (rdC_mk (mem_rd M h5) (mem_rd M h6) (mem_rd M h7) (mem_rd2 M h8)) (by first | assumption | omega)) ?_
      intro va21 vc21
      refine hK22 _ _ (fun w M => (mem_take 3 M :)) ?_
      refine ga_v 13 rfl (by kernel_rfl) (by kernel_rfl) (by kernel_rfl) (.free rfl) rfl rfl (qt_assign rfl rfl) (fun _ _ _ h => h) ?_
      refine ga_done (by kernel_rfl) ?_
      refine gk_then (hK20 _ _ ?_)
      refine gc_seq fun K23 hK23 => ?_
      refine gc_region ?_
      refine g_v (.free rfl) rfl rfl (qt_assign rfl rfl) ?_
      refine g_nil ?_
      refine gk_then (hK23 _ _ ?_)
      refine gc_block ?_
      simp only [show ∀ c x y, homTo c x y c.s.length = homXY c x y from fun _ _ _ => rfl]
      try simp only [List.nil_append, List.cons_append, List.append_assoc, List.set_cons_succ, List.set_cons_zero]
      refine gc_loop ([(0, _), (1, _), (3, _), (4, _), (5, _), (6, _), (12, _), (19, _)] : Env) (fun s : Nat => (fun (i : Nat) => ([(7, .int .i64 (i : Int))] : Env)) s) (fun s : Nat => (fun (i : Nat) => ([] : List (Nat × Itm))) s) (fun s : Nat => (fun (i : Nat) => i ≤ (homXY F.T (at0 F.o (k : Int)) (at0 F.o (g : Int))).length ∧ ∀ q : Nat, q < i → HasL F (k : Int) (g : Int) (at0 (homXY F.T (at0 F.o (k : Int)) (at0 F.o (g : Int))) (q : Int))) s) (fun s : Nat => (fun (i : Nat) => (homXY F.T (at0 F.o (k : Int)) (at0 F.o (g : Int))).length - i) s) (0) (sub_cons rfl (sub_cons rfl (sub_cons rfl (sub_cons rfl (sub_cons rfl (sub_cons rfl (sub_cons rfl (sub_cons rfl (sub_cons rfl sub_nil))))))))) rfl ⟨Nat.zero_le _, fun j hj => absurd hj (by omega)⟩ ?_
      rintro i hinv KL24 hKL24
      simp only [updL, List.foldl_cons, List.foldl_nil, List.set_cons_succ, List.set_cons_zero, List.cons_append, List.nil_append] at hinv hKL24 ⊢
      obtain ⟨hil, hr⟩ := hinv
      have hxl := homXY_len F.T (at0 F.o (k : Int)) (at0 F.o (g : Int))
      refine gc_seq fun K25 hK25 => ?_
      refine gc_seq fun K26 hK26 => ?_
      refine gc_region ?_
      refine g_v (.free rfl) rfl rfl (qt_move rfl rfl) ?_
      refine g_v (.free rfl) rfl rfl (qt_move rfl rfl) ?_
      refine g_v (.free rfl) rfl rfl (qt_len rfl rfl ulE1 (fun w M => lenV_own1 (n := 3) rfl M)) ?_
      refine g_v (.free rfl) rfl rfl (qt_lss rfl rfl rfl) ?_
      refine g_nil ?_
      refine gk_then (hK26 _ _ ?_)
      refine gc_cond rfl (fun hc2 => ?_) (fun hc2 => ?_)
      · try simp only [decide_eq_true_eq, decide_eq_false_iff_not, Bool.not_eq_true', Bool.not_eq_false', Bool.not_eq_eq_eq_not, Bool.not_true, Bool.not_false, ne_eq, Decidable.not_not, Classical.not_not] at hc2
        refine gc_skip ?_
        refine gk_then (hK25 _ _ ?_)
        refine gc_seq fun K27 hK27 => ?_
        refine gc_block ?_
        refine gc_seq fun K28 hK28 => ?_
        refine gc_region ?_
        refine g_v (.free rfl) rfl rfl (qt_move rfl rfl) ?_
        refine g_v (.free rfl) rfl rfl (qt_move rfl rfl) ?_
        refine g_v (.free rfl) rfl rfl (qt_move rfl rfl) ?_
        refine g_v (.free rfl) rfl rfl (qt_index rfl rfl rfl ulE1 szE1 (fun w M => lenA_own1 (n := 3) rfl M) (by omega) (by omega)) ?_
        refine g_v (.free rfl) rfl rfl (qt_load1 rfl rfl Try.underlying2 rfl (fun w M => (mem_own1 (n := 3) M rfl).rd) (by omega) (by omega)) ?_
        refine g_q (.free rfl) rfl rfl (qt_call rfl Try.func120 rfl (by decide) rfl (fun w M => specHas2_any w _ _ _ ((mem_own1 (n := 2) M rfl).rd))) ?_
        refine g_v (.free rfl) rfl rfl (qt_not rfl rfl) ?_
        refine g_nil ?_
        refine gk_then (hK28 _ _ ?_)
        refine gc_cond rfl (fun hc3 => ?_) (fun hc3 => ?_)
        · try simp only [decide_eq_true_eq, decide_eq_false_iff_not, Bool.not_eq_true', Bool.not_eq_false', Bool.not_eq_eq_eq_not, Bool.not_true, Bool.not_false, ne_eq, Decidable.not_not, Classical.not_not] at hc3
          refine gc_seq fun K29 hK29 => ?_
          refine gc_region ?_
          refine g_v (.free rfl) rfl rfl (qt_assign rfl rfl) ?_
          refine g_nil ?_
          refine gk_then (hK29 _ _ ?_)
          refine gc_ret ?_
          refine gk_block_ret ?_
          refine gk_then_ret ?_
          refine gk_then_ret ?_
          refine gk_block_ret ?_
          refine gk_block_ret ?_
          refine gk_then_ret ?_
          refine gk_then_ret ?_
          refine gk_block_ret ?_
          refine gk_block_ret ?_
          refine gk_then_ret ?_
          refine gk_then_ret ?_
          refine gk_block_ret ?_
          refine gk_then_ret ?_
          refine ret_1 rfl rfl  (fun w M => ?_)
          rw [bP_f fun hq => bP_f' hc3 ((hasL_then la).2 (hq k (by omega) g (by omega) i (by omega)))]; exact ⟨rfl, M.1⟩
        · try simp only [decide_eq_true_eq, decide_eq_false_iff_not, Bool.not_eq_true', Bool.not_eq_false', Bool.not_eq_eq_eq_not, Bool.not_true, Bool.not_false, ne_eq, Decidable.not_not, Classical.not_not] at hc3
          refine gc_skip ?_
          refine gk_block ?_
          refine gk_then (hK27 _ _ ?_)
          refine gc_region ?_
          refine g_v (.free rfl) rfl rfl (qt_move rfl rfl) ?_
          refine g_v (.free rfl) rfl rfl (qt_add rfl rfl rfl (by omega)) ?_
          refine g_v (.free rfl) rfl rfl (qt_assign rfl rfl) ?_
          refine g_nil ?_
          refine gk_then (gk_take 4 ?_)
          refine gk_sub ?hs_30 (hKL24 (i + 1) ?hi_30 ?hm_30)
          case hs_30 => exact (sub_cons rfl (sub_cons rfl (sub_cons rfl (sub_cons rfl (sub_cons rfl (sub_cons rfl (sub_cons rfl (sub_cons rfl (sub_cons rfl sub_nil)))))))))
          case hi_30 => exact ⟨by omega, all_next0 hr ((hasL_then la).1 (bP_t' hc3))⟩
          case hm_30 => omega
      · try simp only [decide_eq_true_eq, decide_eq_false_iff_not, Bool.not_eq_true', Bool.not_eq_false', Bool.not_eq_eq_eq_not, Bool.not_true, Bool.not_false, ne_eq, Decidable.not_not, Classical.not_not] at hc2
        refine gc_exit ?_
        refine gk_then_exit ?_
        refine gk_then_exit ?_
        refine gk_block_hit ?_
        refine gk_block ?_
        refine gk_then (hK14 _ _ ?_)
        refine gc_region ?_
        refine g_v (.free rfl) rfl rfl (qt_move rfl rfl) ?_
        refine g_v (.free rfl) rfl rfl (qt_add rfl rfl rfl (by omega)) ?_
        refine g_v (.free rfl) rfl rfl (qt_assign rfl rfl) ?_
        refine g_nil ?_
        refine gk_then (gk_take 1 ?_)
        refine gk_sub ?hs_31 (hKL11 (g + 1) ?hi_31 ?hm_31)
        case hs_31 => exact (sub_cons rfl (sub_cons rfl (sub_cons rfl (sub_cons rfl (sub_cons rfl sub_nil)))))
        case hi_31 => exact ⟨by omega, all_next0 hi fun q hq => hr q (by omega)⟩
        case hm_31 => omega
    · try simp only [decide_eq_true_eq, decide_eq_false_iff_not, Bool.not_eq_true', Bool.not_eq_false', Bool.not_eq_eq_eq_not, Bool.not_true, Bool.not_false, ne_eq, Decidable.not_not, Classical.not_not] at hc1
      refine gc_exit ?_
      refine gk_then_exit ?_
      refine gk_then_exit ?_
      refine gk_block_hit ?_
      refine gk_block ?_
      refine gk_then (hK9 _ _ ?_)
      refine gc_region ?_
      refine g_v (.free rfl) rfl rfl (qt_move rfl rfl) ?_
      refine g_v (.free rfl) rfl rfl (qt_add rfl rfl rfl (by omega)) ?_
      refine g_v (.free rfl) rfl rfl (qt_assign rfl rfl) ?_
      refine g_nil ?_
      refine gk_then (gk_take 1 ?_)
      refine gk_sub ?hs_32 (hKL6 (k + 1) ?hi_32 ?hm_32)
      case hs_32 => exact (sub_cons rfl (sub_cons rfl (sub_cons rfl sub_nil)))
      case hi_32 => exact ⟨by omega, all_next0 hj fun y hy => hi y (by omega)⟩
      case hm_32 => omega
  · try simp only [decide_eq_true_eq, decide_eq_false_iff_not, Bool.not_eq_true', Bool.not_eq_false', Bool.not_eq_eq_eq_not, Bool.not_true, Bool.not_false, ne_eq, Decidable.not_not, Classical.not_not] at hc0
    refine gc_exit ?_
    refine gk_then_exit ?_
    refine gk_then_exit ?_
    refine gk_block_hit ?_
    refine gk_then (hK4 _ _ ?_)
    refine gc_seq fun K33 hK33 => ?_
    refine gc_region ?_
    refine g_v (.free rfl) rfl rfl (qt_assign rfl rfl) ?_
    refine g_nil ?_
    refine gk_then (hK33 _ _ ?_)
    refine gc_ret ?_
    refine ret_1 rfl rfl  (fun w M => ?_)
    rw [bP_t (p := fullP F) fun x hx y hy => hj x (by omega) y hy]; exact ⟨rfl, M.1⟩

set_option maxHeartbeats 1000000 in
set_option maxRecDepth 100000 in
theorem spec_IsFull (w : World) (v : Value) (F : Fct) (h : RdF w v F) :
    Calls Try.prog 34 #[v] w (RetBI w (fIsFull F).1 (fIsFull F).2) := by
  have h0 := h
  obtain ⟨vx1, vx2, vx3, vx4, vx5, vx6, vx7, vx8, vx9, vx10, vk1, vk2, vk3, vk4, vk5, vk6, vk7, vk8, vk9, vk10, rfl, h1, h2, h3, h4, h5, h6, h7, h8, h9, h10⟩ := h.lists
  go_enter Try.func34, Try.ntmps34
  refine gc_enter (N := 9) rfl (look_cons (k := 0) rfl (look_nil _)) ?_
  refine gc_seq fun K1 hK1 => ?_
  refine gc_region ?_
  refine g_op (.free rfl) fun K3 hK3 => ?_
  refine go_box rfl rfl rfl rfl rfl ?_
  intro B2
  refine hK3 _ _ ?_
  refine g_v (.free rfl) rfl rfl (qt_assign rfl rfl) ?_
  refine g_v (.free rfl) rfl rfl (qt_assign rfl rfl) ?_
  refine g_nil ?_
  refine gk_then (hK1 _ _ ?_)
  refine gc_seq fun K4 hK4 => ?_
  refine gc_seq fun K5 hK5 => ?_
  refine gc_region ?_
  refine g_v (.free rfl) rfl rfl (qt_loadS (n := 0) rfl rfl Try.underlying32 rfl (by kernel_rfl) rfl) ?_
  refine g_q (.free rfl) rfl rfl (qt_call rfl Try.func52 rfl (by decide) rfl (fun w M => specIsF_any w _ _ (mem_rdF M h0))) ?_
  refine g_v (.free rfl) rfl rfl (qt_not rfl rfl) ?_
  refine g_nil ?_
  refine gk_then (hK5 _ _ ?_)
  refine gc_cond rfl (fun hc0 => ?_) (fun hc0 => ?_)
  · try simp only [decide_eq_true_eq, decide_eq_false_iff_not, Bool.not_eq_true', Bool.not_eq_false', Bool.not_eq_eq_eq_not, Bool.not_true, Bool.not_false, ne_eq, Decidable.not_not, Classical.not_not] at hc0
    refine gc_seq fun K6 hK6 => ?_
    refine gc_region ?_
    refine g_v (.free rfl) rfl rfl (qt_assign rfl rfl) ?_
    refine g_v (.free rfl) rfl rfl (qt_assign rfl rfl) ?_
    refine g_nil ?_
    refine gk_then (hK6 _ _ ?_)
    refine gc_ret ?_
    refine gk_then_ret ?_
    refine ret_2 rfl rfl rfl  (fun w M => ?_)
    rw [show fIsFull F = (false, 1) from by unfold fIsFull; rw [askB_f hc0, (fctErr_f hc0).1]]; exact ⟨rfl, M.1⟩
  · try simp only [decide_eq_true_eq, decide_eq_false_iff_not, Bool.not_eq_true', Bool.not_eq_false', Bool.not_eq_eq_eq_not, Bool.not_true, Bool.not_false, ne_eq, Decidable.not_not, Classical.not_not] at hc0
    refine gc_skip ?_
    refine gk_then (hK4 _ _ ?_)
    refine gc_seq fun K7 hK7 => ?_
    refine gc_region ?_
    refine g_v (.free rfl) rfl rfl (qt_loadS (n := 0) rfl rfl Try.underlying32 rfl (by kernel_rfl) rfl) ?_
    refine g_q (.free rfl) rfl rfl (qt_call rfl Try.func82 rfl (by decide) rfl (fun w M => specFull_any w _ _ (mem_rdF M h0) (hc0))) ?_
    refine g_v (.free rfl) rfl rfl (qt_assign rfl rfl) ?_
    refine g_v (.free rfl) rfl rfl (qt_assign rfl rfl) ?_
    refine g_nil ?_
    refine gk_then (hK7 _ _ ?_)
    refine gc_ret ?_
    refine ret_2 rfl rfl rfl  (fun w M => ?_)
    rw [show fIsFull F = (bP (fullP F), 0) from by unfold fIsFull; rw [askB_t hc0, (fctErr_t hc0).1]]; exact ⟨rfl, M.1⟩

set_option maxHeartbeats 1000000 in
set_option maxRecDepth 100000 in
theorem impl_IsFull (w : World) (v : Value) (F : Fct) (h : RdF w v F) :
    Calls Try.prog 35 #[v] w (RetBI w (fIsFull F).1 (fIsFull F).2) := by
  have h0 := h
  obtain ⟨vx1, vx2, vx3, vx4, vx5, vx6, vx7, vx8, vx9, vx10, vk1, vk2, vk3, vk4, vk5, vk6, vk7, vk8, vk9, vk10, rfl, h1, h2, h3, h4, h5, h6, h7, h8, h9, h10⟩ := h.lists
  go_enter Try.func35, Try.ntmps35
  refine gc_enter (N := 8) rfl (look_cons (k := 0) rfl (look_nil _)) ?_
  refine gc_seq fun K1 hK1 => ?_
  refine gc_region ?_
  refine g_op (.free rfl) fun K3 hK3 => ?_
  refine go_box rfl rfl rfl rfl rfl ?_
  intro B2
  refine hK3 _ _ ?_
  refine g_v (.free rfl) rfl rfl (qt_assign rfl rfl) ?_
  refine g_v (.free rfl) rfl rfl (qt_assign rfl rfl) ?_
  refine g_nil ?_
  refine gk_then (hK1 _ _ ?_)
  refine gc_seq fun K4 hK4 => ?_
  refine gc_region ?_
  refine g_v (.free rfl) rfl rfl (qt_loadS (n := 0) rfl rfl Try.underlying32 rfl (by kernel_rfl) rfl) ?_
  refine g_q (.free rfl) rfl rfl (qt_call rfl Try.func80 rfl (by decide) rfl (fun w M => askB_any w _ _ (mem_rdF M h0) (_) (bP (fullP F)) (fun hI w' hb v h => callsV_f (bnd := []) (vs := [_]) (caps := []) Try.func83 rfl (by decide) (isFullF_any w' v F h hI)))) ?_
  refine g_v (.free rfl) rfl rfl (qt_extract rfl rfl rfl) ?_
  refine g_v (.free rfl) rfl rfl (qt_extract rfl rfl rfl) ?_
  refine g_v (.free rfl) rfl rfl (qt_assign rfl rfl) ?_
  refine g_v (.free rfl) rfl rfl (qt_assign rfl rfl) ?_
  refine g_nil ?_
  refine gk_then (hK4 _ _ ?_)
  refine gc_ret ?_
  refine ret_2 rfl rfl rfl  (fun w M => ?_)
  exact ⟨rfl, M.1⟩
end
end Go.Proofs.Ytpfcfhjpgngneaa
