
/- Paths in memory: a list of structs of two ends and a list of edges; the lists of edges lie in a pool. -/
import Derived.Test.YtgkfampgofjkfaaEnt0
import Derived.Test.YtgkfampgofjkfaaClo2
import Derived.Test.YtgkfampgofjkfaaRul7
import Derived.Deep.MidRow
set_option linter.unusedSimpArgs false
set_option linter.unusedVariables false
set_option linter.unusedSectionVars false
namespace Go.Proofs.Ytgkfampgofjkfaa
open Go.RowKit


/-- The head of a list of int64. -/
abbrev Hd := Option Addr × Nat × Nat
def hdV (h : Hd) : Value := .slice h.1 h.2.1 h.2.2
/-- A list of edges: its head, and what it reads as. -/
abbrev Edg := Hd × List Int
/-- Lists of edges of the call's own, all apart. -/
def poolI (pl : List Edg) : Itm := tailI (pl.map fun p => own1I (hdV p.1) p.2)
section
variable {w0 : World} {is : List Itm} {ops : Array Oper} {Q : Exit → Act → World → Prop} {o : Oper} {rest : List Oper} {N : Frm} {n m : Nat} {e : Env} {v : Value} {d : Nat} {K : Act → World → Prop}
theorem star_in {js : List Itm} {i : Itm} {w : World} {S : Nat → Prop} (h : Star js w S) (hi : i ∈ js) : ∃ S1 : Nat → Prop, (∀ k, S1 k → S k) ∧ i.p w S1 := by
  obtain ⟨k, hk, rfl⟩ := List.getElem_of_mem hi
  exact star_get js (List.getElem?_eq_getElem hk) h
theorem mem_pool {w : World} {pl : List Edg} {l : Edg} (M : Mem w0 w is) (h : is[n]? = some (poolI pl)) (hl : l ∈ pl) : Rd w (hdV l.1) l.2 := by
  obtain ⟨S, _, hb⟩ := mem_get M h
  have hs : Star (pl.map fun p => own1I (hdV p.1) p.2) w S := hb
  obtain ⟨S1, _, h1⟩ := star_in hs (List.mem_map.2 ⟨l, hl, rfl⟩)
  exact Own1.rd h1
/-- No list yet. -/
theorem mem_pool0 {w : World} (M : Mem w0 w is) : Mem w0 w (is ++ [poolI []]) := mem_new M (Below.refl _ _) trivial
theorem gc_pool0 {c : Code} (hk : GC w0 (is ++ [poolI []]) N c Q e) : GC w0 is N c Q e := fun w a M F => hk w a (mem_pool0 M) F
theorem star_tail_snoc : ∀ (L : List Itm) {i : Itm} {w : World} {S1 S2 S : Nat → Prop}, (∀ k, S1 k → S k) → (∀ k, S2 k → S k) → (∀ k, S1 k → ¬ S2 k) → Star L w S1 → i.p w S2 → Star (L ++ [i]) w S :=
  fun L i w S1 S2 S h1 h2 hd hs hi => star_app L [i] h1 h2 hd hs ⟨S2, fun _ => False, fun _ h => h, fun _ h => h.elim, fun _ _ h => h, hi, trivial⟩
/-- A list of the call's own goes into the pool. -/
theorem mem_pool_add {w : World} {pl : List Edg} {m' : Nat} {l : Edg} (M : Mem w0 w is) (h : is[n]? = some (poolI pl)) (hj : (is.eraseIdx n)[m']? = some (own1I (hdV l.1) l.2)) (hE : (is.set m trivI).eraseIdx n = (is.eraseIdx n).set m' trivI) : Mem w0 w ((is.set m trivI).set n (poolI (pl ++ [l]))) := by
  obtain ⟨S1, S2, k1, k2, kd, hp, hq, hset⟩ := star_two' M.2 h hj hE
  have hp' : Star (pl.map fun p => own1I (hdV p.1) p.2) w S1 := hp
  refine ⟨M.1, ?_⟩
  have hs := hset w (poolI (pl ++ [l])) (frS_new (Below.refl _ _)) (show Star ((pl ++ [l]).map fun p => own1I (hdV p.1) p.2) w _ by
    rw [List.map_append]
    exact star_tail_snoc _ (fun k h => .inl (.inl h)) (fun k h => .inl (.inr h)) kd hp' hq)
  exact star_keep _ (fun k _ hk => hk.elim id fun h => Nat.le_trans M.1.size h) agree_refl hs
theorem gk_pool_add {pl : List Edg} {m' : Nat} {l : Edg} (h : is[n]? = some (poolI pl)) (hj : (is.eraseIdx n)[m']? = some (own1I (hdV l.1) l.2)) (hE : (is.set m trivI).eraseIdx n = (is.eraseIdx n).set m' trivI) (hk : GK w0 ((is.set m trivI).set n (poolI (pl ++ [l]))) N K e) : GK w0 is N K e :=
  fun w a M F => hk w a (mem_pool_add M h hj hE) F
/-! ### Fields of an entry, and an entry that is written -/
def eltF (z : Nat) (v : Value) (i : Int) (off : Nat) : Value := match v with | .slice (some a) _ _ => .pointer (some ⟨a.block, a.off + i.toNat * z + off, none⟩) | _ => .pointer none
theorem take_put {α : Type} (l us : List α) (j N : Nat) (hj : j + us.length ≤ N) {z : Nat} (hz : us.length = z) : List.take N (l.take j ++ us ++ l.drop (j + z)) = (l.take N).take j ++ us ++ (l.take N).drop (j + z) := by
  subst hz
  by_cases hl : j ≤ l.length
  · have h1 : (l.take j ++ us).length = j + us.length := by simp [List.length_take]; omega
    rw [List.take_append, List.take_of_length_le (by omega), h1, List.drop_take, List.take_take, Nat.min_eq_left (by omega)]
  · have hd : ∀ k, j ≤ k → l.drop k = [] := fun k hk => List.drop_eq_nil_of_le (by omega)
    rw [List.take_take, Nat.min_eq_left (by omega), hd _ (by omega), List.drop_take, hd _ (by omega), List.take_nil, List.append_nil, List.take_of_length_le]
    simp [List.length_take]; omega
theorem flat_set0 {α : Type} (L : Lab0 α) (en : Ent α) : ∀ (es : List (Ent α)) {j : Nat}, j < es.length → (es.set j en).flatMap (enc0 L) = (es.flatMap (enc0 L)).take (j * (L.z + 2)) ++ enc0 L en ++ (es.flatMap (enc0 L)).drop (j * (L.z + 2) + (L.z + 2))
  | [], j, hj => by simp at hj
  | e :: es, 0, _ => by
    have h := enc_len0 L e
    simp only [List.set_cons_zero, List.flatMap_cons, Nat.zero_mul, List.take_zero, List.nil_append, Nat.zero_add]
    rw [List.drop_append_of_le_length (by omega), List.drop_eq_nil_of_le (by omega), List.nil_append]
  | e :: es, j + 1, hj => by
    have h := enc_len0 L e
    have ih := flat_set0 L en es (j := j) (by simpa using hj)
    have e1 : (j + 1) * (L.z + 2) = (enc0 L e).length + j * (L.z + 2) := by rw [Nat.succ_mul, h]; omega
    have e2 : (j + 1) * (L.z + 2) + (L.z + 2) = (enc0 L e).length + (j * (L.z + 2) + (L.z + 2)) := by rw [e1]; omega
    rw [List.set_cons_succ, List.flatMap_cons, ih, List.flatMap_cons, e2, e1, List.take_length_add_append, List.drop_length_add_append]
    simp only [List.append_assoc]
/-! ### The walker's words for a list of paths -/
theorem atE0_mem {es : List (Ent Edg)} {i : Int} (h0 : 0 ≤ i) (h1 : i < es.length) : atE0 es i ∈ es := by
  have hlt : i.toNat < es.length := by omega
  have he : atE0 es i = es[i.toNat] := by simp [atE0, List.getD_eq_getElem?_getD, List.getElem?_eq_getElem hlt]
  rw [he]; exact List.getElem_mem hlt
theorem gc_pure {p : Prop} {c : Code} (h : ∀ w, Mem w0 w is → p) (hk : p → GC w0 is N c Q e) : GC w0 is N c Q e := fun w a M F => hk (h w M) w a M F
theorem qt_fieldPL {x : Operand} {s : TypeId} {u : Value} {k : Nat} {i : Int} {n2 off z : Nat} {fs : Array Field} {f : Field} (hop : o.op = .fieldAddr s x n2) (hx : evo e x = some (eltE0 3 u i)) (hs : Try.prog.underlying s = some (.struct fs)) (hf : fs[n2]? = some f)
    (hz : (Try.prog.info? f.type).map (·.size) = some (z + 1)) (ho : f.offset = off) (hl : ∀ w, Mem w0 w is → LenA u k) (h0 : 0 ≤ i) (h1 : i < (k : Int)) : QV w0 is o e (eltF 3 u i off) :=
  fun w ac M F => by
    have hx := F _ _ hx
    obtain ⟨a, cap, rfl, ha⟩ := hl w M
    obtain ⟨b, of_, rfl⟩ := ha (by omega)
    obtain ⟨inf, hi, hz'⟩ := Option.map_eq_some_iff.1 hz
    simp [execOp, hop, hx, eltE0, eltF, Instr.fieldAt, run_underlying hs, hf, Instr.sureAddr, fieldPlace, sizeOf, typeInfo, hi, hz', Addr.add_mid, ho]
theorem gk_poolA {pl : List Edg} {m' : Nat} {h1 : Option Addr} {h2 h3 : Nat} {xs : List Int} (h : is[n]? = some (poolI pl)) (hj : (is.eraseIdx n)[m']? = some (own1I (.slice h1 h2 h3) xs)) (hE : (is.set m trivI).eraseIdx n = (is.eraseIdx n).set m' trivI) (hk : GK w0 ((is.set m trivI).set n (poolI (pl ++ [((h1, h2, h3), xs)]))) N K e) : GK w0 is N K e :=
  gk_pool_add (l := ((h1, h2, h3), xs)) h hj hE hk
end

end Go.Proofs.Ytgkfampgofjkfaa
