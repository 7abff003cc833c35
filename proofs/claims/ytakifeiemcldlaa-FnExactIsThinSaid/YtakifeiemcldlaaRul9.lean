
/- The rules of a walk in blocks of its own: a set of pairs, kept as a map of truths. -/
import Derived.Test.YtakifeiemcldlaaRul8
import Derived.WideKeyRuns
namespace Go.Proofs.Ytakifeiemcldlaa
open Go.RowKit
def PairE (es : List MapEntry) (ps : List (Int × Int)) : Prop := es.map (fun x => (x.key, x.val)) = ps.map fun p => (Value.agg #[.int .i64 p.1, .int .i64 p.2], Value.bool true)
def SetM (B : Nat) (ps : List (Int × Int)) (w : World) (S : Nat → Prop) : Prop := (∃ es clock, w.heap[B]? = some (.map es clock) ∧ PairE es.toList ps) ∧ S B
theorem setM_loc (B : Nat) (ps : List (Int × Int)) : Loc (SetM B ps) where
  keep hs ha h := by
    obtain ⟨⟨es, cl, hb, hp⟩, hS⟩ := h
    have hlt := (Array.getElem?_eq_some_iff.1 hb).1
    exact ⟨⟨es, cl, by rw [ha _ hlt hS]; exact hb, hp⟩, hs _ hlt hS⟩
/-- A set of pairs of the call's own. -/
def setI (B : Nat) (ps : List (Int × Int)) : Itm := ⟨_, setM_loc B ps⟩
theorem run_checkPair (a b : Int) (em : Bool) (w : World) : (Instr.checkKey em 10000 73 (.agg #[.int .i64 a, .int .i64 b])).run Try.prog w = .ok () w := by
  show (Instr.checkKey em (9998 + 1 + 1) 73 (.agg #[.int .i64 a, .int .i64 b])).run Try.prog w = .ok () w
  have h64 : ∀ x : Int, (Instr.checkKey em (9998 + 1) 2 (.int .i64 x)).run Try.prog w = .ok () w := fun x => MapKept.run_checkKey Try.underlying2 (by simp [MapKept.IsKey]) em 9998
  obtain ⟨i, hi, hz, hs, hb⟩ := info_parts info64
  unfold Instr.checkKey
  simp [Sem.run_bind, run_underlying Try.underlying73, part, sizeOf, typeInfo, hi, hs, h64, Result.andThen]
theorem run_askPair (a b : Int) (w : World) : ∀ (es : List MapEntry) (ps : List (Int × Int)) (i : Nat), PairE es ps →
    ∃ r, (Instr.findAsking 73 (.agg #[.int .i64 a, .int .i64 b]) es i).run Try.prog w = .ok r w ∧ ((a, b) ∈ ps → ∃ j, r = some (j, .bool true)) ∧ ((a, b) ∉ ps → r = none)
  | [], ps, i, h => by
    have h2 : ps = [] := by
      cases ps with
      | nil => rfl
      | cons p ps => simp [PairE] at h
    subst h2
    exact ⟨none, by simp [Instr.findAsking], fun h => by simp at h, fun _ => rfl⟩
  | x :: es, [], i, h => by simp [PairE] at h
  | x :: es, p :: ps, i, h => by
    simp only [PairE, List.map_cons, List.cons.injEq, Prod.mk.injEq] at h
    obtain ⟨⟨hk, hv⟩, h2⟩ := h
    obtain ⟨r, hr, hr2, hr3⟩ := run_askPair a b w es ps (i + 1) h2
    have he : (Op.equal 73 (.agg #[.int .i64 a, .int .i64 b]) x.key).run Try.prog w = .ok (decide (a = p.1 ∧ b = p.2)) w := by rw [hk]; exact eqA_arrowEnds a b p.1 p.2 w
    unfold Instr.findAsking
    by_cases hab : a = p.1 ∧ b = p.2
    · rw [decide_eq_true hab] at he
      refine ⟨some (i, .bool true), by simp [Sem.run_bind, he, hv, Result.andThen], fun _ => ⟨i, rfl⟩, fun hn => absurd (by rw [hab.1, hab.2]; exact List.mem_cons_self ..) hn⟩
    · rw [decide_eq_false hab] at he
      refine ⟨r, by simp [Sem.run_bind, he, hr, Result.andThen], fun hm => hr2 ?_, fun hn => hr3 fun h => hn (List.mem_cons_of_mem _ h)⟩
      rcases List.mem_cons.1 hm with h | h
      · exact absurd ⟨by rw [← h], by rw [← h]⟩ hab
      · exact h
theorem run_findPair (a b : Int) (w : World) {es : List MapEntry} {ps : List (Int × Int)} (h : PairE es ps) :
    ∃ r, (Instr.findKey 73 (.agg #[.int .i64 a, .int .i64 b]) es).run Try.prog w = .ok r w ∧ ((a, b) ∈ ps → ∃ j, r = some (j, .bool true)) ∧ ((a, b) ∉ ps → r = none) := by
  obtain ⟨r, hr, h1, h2⟩ := run_askPair a b w es ps 0 h
  refine ⟨r, ?_, h1, h2⟩
  cases es with
  | nil =>
    have : ps = [] := by
      cases ps with
      | nil => rfl
      | cons p ps => simp [PairE] at h
    subst this
    rw [h2 (by simp)]
    simp [Instr.findKey, Sem.run_bind, run_underlying Try.underlying73, Instr.findNow, Result.andThen]
  | cons x es =>
    simp [Instr.findKey, Sem.run_bind, run_underlying Try.underlying73, Instr.findNow, Instr.sameNow, hr, Result.andThen]
section
variable {w0 : World} {is : List Itm} {ops : Array Oper} {Q : Exit → Act → World → Prop} {o : Oper} {rest : List Oper} {N : Nat} {e : Env} {v : Value} {d : Nat} {K : Act → World → Prop}
theorem go_makeSet {t : TypeId} (hd : o.dst = some d) (hN : Nat.blt d N = true) (hop : o.op = .makeMap t none)
    (hk : ∀ B : Nat, GK w0 (is ++ [setI B []]) N K ((d, .map (some B)) :: e)) : GO w0 is N o e Q K := by
  intro w ac M F
  refine go_val (v := .map (some w.heap.size)) (w' := w.alloc (.map #[] 0)) hd hN F ?_ fun ac F => hk _ _ ac (mem_new M (below_alloc w _) ⟨⟨#[], 0, heap_alloc_new w _, rfl⟩, Nat.le_refl _⟩) F
  intro ρ F
  simp [execOp, hop, Instr.makeMap, Sem.run_bind, Result.andThen]
theorem qt_lookSet {x y : Operand} {t : TypeId} {B n : Nat} {a b : Int} {ps : List (Int × Int)} (hop : o.op = .lookup t x y false) (hx : evo e x = some (.map (some B))) (hy : evo e y = some (.agg #[.int .i64 a, .int .i64 b]))
    (ht : Try.prog.underlying t = some (.map 73 4)) (hi : is[n]? = some (setI B ps)) : QV w0 is o e (.bool (decide ((a, b) ∈ ps))) :=
  fun w ac M F => by
    have hx := F _ _ hx; have hy := F _ _ hy
    obtain ⟨S, _, hb⟩ := mem_get M hi
    obtain ⟨⟨es, cl, hb, hp⟩, _⟩ := (hb : SetM B ps w S)
    obtain ⟨r, hr, h1, h2⟩ := run_findPair a b w hp
    obtain ⟨i, hi', hz, hs, hbb⟩ := info_parts infoBl
    by_cases hm : (a, b) ∈ ps
    · obtain ⟨j, rfl⟩ := h1 hm
      simp [execOp, hop, hx, hy, Instr.lookup, run_underlying ht, MapKept.run_getObj_map hb, run_checkPair, hr, hm, Sem.run_bind, Result.andThen]
    · obtain rfl := h2 hm
      simp [execOp, hop, hx, hy, Instr.lookup, run_underlying ht, MapKept.run_getObj_map hb, run_checkPair, hr, hm, Sem.run_bind, Result.andThen, zeroValue, typeInfo, hi', hz]
/-- A pair that the set doesn't hold is put into it. -/
theorem go_putSet {x y z : Operand} {t : TypeId} {B n : Nat} {a b : Int} {ps : List (Int × Int)} (hd : o.dst = none) (hop : o.op = .mapUpdate t x y z) (hx : evo e x = some (.map (some B))) (hy : evo e y = some (.agg #[.int .i64 a, .int .i64 b])) (hz : evo e z = some (.bool true))
    (ht : Try.prog.underlying t = some (.map 73 4)) (hi : is[n]? = some (setI B ps)) (hm : (a, b) ∉ ps)
    (hk : GK w0 (is.set n (setI B (ps ++ [(a, b)]))) N K e) : GO w0 is N o e Q K := by
  intro w ac M F
  obtain ⟨S, hS, hp, hset⟩ := mem_set M hi
  obtain ⟨⟨es, cl, hb, hp⟩, hSB⟩ := (hp : SetM B ps w S)
  obtain ⟨r, hr, h1, h2⟩ := run_findPair a b w hp
  obtain rfl := h2 hm
  have hlt := (Array.getElem?_eq_some_iff.1 hb).1
  refine go_skip (w' := { w with heap := w.heap.setIfInBounds B (.map (es.push { key := .agg #[.int .i64 a, .int .i64 b], val := .bool true, born := cl }) (cl + 1)) }) hd F ?_ fun ac F => hk _ ac (hset _ _ ⟨rfl, rfl, rfl, by simp, fun q hq hs => ?_⟩ ⟨⟨es.push { key := .agg #[.int .i64 a, .int .i64 b], val := .bool true, born := cl }, cl + 1, by simp [hlt], ?_⟩, .inl hSB⟩) F
  · intro ρ F; have hx := F _ _ hx; have hy := F _ _ hy; have hz := F _ _ hz
    simp [execOp, hop, hx, hy, hz, Instr.mapUpdate, run_underlying ht, MapKept.run_getObj_map hb, run_checkPair, hr, Sem.run_bind, Result.andThen, MapKept.run_setObj_map _ hb]
  · have : B ≠ q := fun e => hs (by rw [← e]; exact hSB)
    simp [this]
  · simp only [PairE] at hp ⊢
    simp [hp]
end
end Go.Proofs.Ytakifeiemcldlaa
