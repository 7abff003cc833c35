
/- A partition by labels that are pairs of numbers: lists and maps of pairs, the program's partitionBy. -/
import Derived.Test.YtgkfampgofjkfaaEntM
import Derived.Test.YtgkfampgofjkfaaEnts
import Derived.Test.YtgkfampgofjkfaaCong2
set_option linter.unusedSimpArgs false
set_option linter.unusedVariables false
set_option linter.unusedSectionVars false
namespace Go.Proofs.Ytgkfampgofjkfaa
open Go.RowKit


theorem infoPU : (Try.prog.info? 65).map (fun i => (i.zero, i.size, i.bytes)) = some (some (.agg #[.int .i64 0, .int .i64 0]), 2, 16) := by kernel_rfl
theorem chk_un (a b : Int) (l : Unit) (em : Bool) (w : World) : (Instr.checkKey em 10000 65 (.agg (Value.int .i64 a :: Value.int .i64 b :: ([] : List Value)).toArray)).run Try.prog w = .ok () w := by
  show (Instr.checkKey em (9998 + 1 + 1) 65 _).run Try.prog w = .ok () w
  have h64 : ∀ x : Int, (Instr.checkKey em (9998 + 1) 2 (.int .i64 x)).run Try.prog w = .ok () w := fun x => MapKept.run_checkKey Try.underlying2 (by simp [MapKept.IsKey]) em 9998
  obtain ⟨i, hi, hz, hs, hb⟩ := info_parts info64
  unfold Instr.checkKey
  simp [Sem.run_bind, run_underlying Try.underlying65, part, sizeOf, typeInfo, hi, hs, h64, Result.andThen]
theorem eqk_un (a b a' b' : Int) (l l' : Unit) (w : World) : (Op.equal 65 (.agg (Value.int .i64 a :: Value.int .i64 b :: ([] : List Value)).toArray) (.agg (Value.int .i64 a' :: Value.int .i64 b' :: ([] : List Value)).toArray)).run Try.prog w = .ok (bP (a = a' ∧ b = b' ∧ l = l')) w := by
  show (Op.equalIn 10000 _ _ _).run Try.prog w = _
  rw [run_equalIn_struct _ 9999 _ _ _ (by kernel_rfl) (by kernel_rfl)]
  simp only [Program.fieldsOf, Try.underlying65]
  rw [bP_dec]
  by_cases h1 : a = a' <;> by_cases h2 : b = b' <;> simp [go_sem, h1, h2, Op.eqFields]
noncomputable def lab_un : Lab Unit where
  z := 0
  lc _ := []
  tE := 65
  tS := 63
  tM := 95
  bts := 16
  zc := .agg #[.int .i64 0, .int .i64 0]
  td := match Try.prog.underlying 65 with | some t => t | none => .bool
  len _ := rfl
  one _ := rfl
  inf := by kernel_rfl
  zl := rfl
  cap := 5000000000001
  hc1 := by decide
  hc2 := by decide
  hcb := by decide
  hz := by decide
  ud := by kernel_rfl
  row := by kernel_rfl
  ul := by kernel_rfl
  el := by kernel_rfl
  um := by kernel_rfl
  chk := chk_un
  eqk := eqk_un
theorem bt_pairU {a b : Int} : Try.prog.built 65 [(0, .int .i64 a), (1, .int .i64 b)] = some #[.int .i64 a, .int .i64 b] := by kernel_rfl
def entU0 : Ent Unit := (0, 0, ())
theorem flat_zeroU : ∀ n : Nat, (List.replicate n entU0).flatMap (enc lab_un) = List.replicate (n * 2) (.int .i64 0)
  | 0 => by simp
  | n + 1 => by rw [List.replicate_succ, List.flatMap_cons, flat_zeroU n, Nat.succ_mul]; rw [show n * 2 + 2 = (n * 2 + 1) + 1 from rfl, List.replicate_succ, List.replicate_succ]; rfl
theorem made_zeroU (n : Nat) : (madeCells lab_un.zc.cells (n * 2)).toList = List.replicate (n * 2) (.int .i64 0) := by
  apply List.ext_getElem?
  intro j
  by_cases hj : j < n * 2
  · have h3 : j % 2 < 2 := Nat.mod_lt _ (by omega)
    have e : lab_un.zc.cells = #[.int .i64 0, .int .i64 0] := rfl
    rw [e]
    simp [madeCells, hj]
    rcases (show j % 2 = 0 ∨ j % 2 = 1 by omega) with h | h <;> rw [h] <;> rfl
  · simp [madeCells, hj]
section
variable {w0 : World} {is : List Itm} {ops : Array Oper} {Q : Exit → Act → World → Prop} {o : Oper} {rest : List Oper} {N : Frm} {n : Nat} {e : Env} {v : Value} {d : Nat} {K : Act → World → Prop}
theorem go_makeU {x y : Operand} {t : TypeId} {n : Nat} (hd : o.dst = some d) (hN : Nat.blt d N = true) (hop : o.op = .makeSlice t x y) (ht : t = lab_un.tS) (hx : evo e x = some (.int .i64 (n : Int))) (hy : evo e y = some (.int .i64 (n : Int))) (hn : n ≤ 100000)
    (hk : ∀ B : Nat, GK w0 (is ++ [ownEI lab_un (.slice (some ⟨B, 0, none⟩) n n) (List.replicate n entU0)]) N K ((d, .slice (some ⟨B, 0, none⟩) n n) :: e)) : GO w0 is N o e Q K := by
  subst ht
  intro w ac M F
  obtain ⟨i, hi, hz, hs, hb⟩ := info_parts lab_un.inf
  have hb16 : i.bytes = 16 := hb
  have hr := run_make (P := Try.prog) w lab_un.tS lab_un.tE i lab_un.zc lab_un.ul hi hz .i64 .i64 n n (by omega) (Int.le_refl _) (by rw [hb16]; omega) (by omega)
  simp only [Int.toNat_natCast] at hr
  have hO : OwnE lab_un (.slice (some ⟨w.heap.size, 0, none⟩) n n) (List.replicate n entU0) (w.alloc (.cells (madeCells lab_un.zc.cells (n * i.size)) lab_un.tE)) (fun k => w.heap.size ≤ k) := by
    have h3 : i.size = 2 := hs
    rw [h3]
    have hl : (w.alloc (.cells (madeCells lab_un.zc.cells (n * 2)) lab_un.tE)).ownsRow 0 lab_un.tE 2 (.slice (some ⟨w.heap.size, 0, none⟩) n n) n (madeCells lab_un.zc.cells (n * 2)).toList := World.ownsRow_lit w _ n (Nat.zero_le _) (show n ≤ maxLen by unfold maxLen; omega) (size_madeCells _ _)
    rw [made_zeroU, ← flat_zeroU] at hl
    refine ⟨?_, by rw [List.length_replicate]; show n ≤ lab_un.cap; exact Nat.le_trans hn (by decide), fun q hq => by simp [Value.ownBlock] at hq; omega⟩
    rw [List.length_replicate]; exact hl
  refine go_val (v := .slice (some ⟨w.heap.size, 0, none⟩) n n) (w' := _) hd hN F ?_ fun ac F => hk w.heap.size _ ac (mem_new M (below_alloc w _) hO) F
  intro ρ F; have hx := F _ _ hx; have hy := F _ _ hy
  simp only [execOp, hop, hx, hy, Sem.run_bind, hr, Result.andThen_ok]
  rfl
theorem go_storeEU {x y : Operand} {t : TypeId} {u : Value} {es : List (Ent Unit)} {i a b : Int} (hd : o.dst = none) (hop : o.op = .store t x y) (hx : evo e x = some (eltE 2 u i)) (hy : evo e y = some (.agg #[.int .i64 a, .int .i64 b])) (ht : t = lab_un.tE)
    (hi : is[n]? = some (ownEI lab_un u es)) (h0 : 0 ≤ i) (h1 : i < es.length) (hk : GK w0 (is.set n (ownEI lab_un u (es.set i.toNat (a, b, ())))) N K e) : GO w0 is N o e Q K := by
  subst ht
  obtain ⟨en, hen⟩ : ∃ en : Ent Unit, en = (a, b, ()) := ⟨_, rfl⟩
  have hy : evo e y = some (encA lab_un en) := by rw [hen]; exact hy
  rw [← hen] at hk
  intro w ac M F
  obtain ⟨S, hS, hp, hset⟩ := mem_set M hi
  have hp : OwnE lab_un u es w S := hp
  obtain ⟨hown, hcap, hS2⟩ := hp
  have hlt : i.toNat < es.length := by omega
  rcases hown.2 with ⟨_, hn⟩ | ⟨g, cap, cur, rfl, hb, hg, hncap, hmax, hsz, htk⟩
  · omega
  have hfl : (es.flatMap (enc lab_un)).length = es.length * 2 := flat_len lab_un es
  have hcur : es.length * 2 ≤ cur.size := by rw [hsz]; exact Nat.mul_le_mul_right 2 hncap
  have hen2 : (enc lab_un en).length = 2 := enc_len lab_un en
  have hroom : i.toNat * 2 + 2 ≤ cur.size := by omega
  have hr := run_storeCells_at (P := Try.prog) g (i.toNat * 2) lab_un.tE (enc lab_un en) 0 cur w hg (by rw [hen2]; omega) (fun v hv => List.all_eq_true.1 (enc_one lab_un en) v hv)
  simp only [Nat.add_zero] at hr
  have htk : cur.toList.take (es.length * 2) = es.flatMap (enc lab_un) := htk
  have hown2 : OwnE lab_un (.slice (some ⟨g, 0, none⟩) es.length cap) (es.set i.toNat en) (w.setRow g (cur.toList.take (i.toNat * 2) ++ enc lab_un en ++ cur.toList.drop (i.toNat * 2 + (enc lab_un en).length)).toArray) S := by
    refine ⟨⟨by rw [flat_len, List.length_set], .inr ⟨g, cap, _, by rw [List.length_set], hb, setRow_heap w g cur _ _ (0, 0) hg, by rw [List.length_set]; exact hncap, hmax, ?_, ?_⟩⟩, by rw [List.length_set]; exact hcap, hS2⟩
    · rw [hen2, ← hsz]
      simp only [List.size_toArray, List.length_append, List.length_take, List.length_drop, Array.length_toList, hen2]
      omega
    · rw [hen2, List.length_set]
      show List.take (es.length * 2) _ = _
      rw [take_put2 (cur.toList) _ _ _ (by omega) (by rw [hen2]), htk, flat_set lab_un en es hlt]
      show _ = List.take (i.toNat * 2) _ ++ _ ++ List.drop (i.toNat * 2 + 2) _
      rfl
  have hown3 : (ownEI lab_un (.slice (some ⟨g, 0, none⟩) es.length cap) (es.set i.toNat en)).p (w.setRow g (cur.toList.take (i.toNat * 2) ++ enc lab_un en ++ cur.toList.drop (i.toNat * 2 + (enc lab_un en).length)).toArray) (fun k => S k ∨ w.heap.size ≤ k) :=
    ⟨hown2.1, hown2.2.1, fun q hq => .inl (hown2.2.2 q hq)⟩
  refine go_skip (w' := w.setRow g _) hd F ?_ fun a F => hk _ a (hset _ _ ⟨rfl, rfl, rfl, by simp, fun k hk hr => setRow_other w g k _ (fun e => hr (by rw [e]; exact hS2 g rfl))⟩ hown3) F
  intro ρ F; have hx := F _ _ hx; have hy := F _ _ hy
  have hsi := lab_size lab_un
  cases hq : Try.prog.info? lab_un.tE with
  | none => rw [hq] at hsi; simp at hsi
  | some ii =>
    rw [hq] at hsi
    have hsz2 : ii.size = 2 := by simpa [show lab_un.z + 2 = 2 from rfl] using hsi
    simp [execOp, hop, hx, hy, eltE, encA, Instr.storeAt, Instr.sureAddr, storeVar, sizeOf, typeInfo, hq, Value.cells, hen2, hsz2, hr, Sem.run_bind]
end
section
variable {α : Type} [DecidableEq α]
def seenEU (l : List (Ent α)) : List (Ent α) := l.foldl (fun s x => if x ∈ s then s else s ++ [x]) []
theorem seenE_snocU (l : List (Ent α)) (x : Ent α) : seenEU (l ++ [x]) = if x ∈ seenEU l then seenEU l else seenEU l ++ [x] := by
  unfold seenEU; rw [List.foldl_append]; rfl
theorem seenE_preU : ∀ (l s : List (Ent α)), ∃ t, l.foldl (fun s x => if x ∈ s then s else s ++ [x]) s = s ++ t
  | [], s => ⟨[], by simp⟩
  | x :: l, s => by
    obtain ⟨t, ht⟩ := seenE_preU l (if x ∈ s then s else s ++ [x])
    rw [List.foldl_cons, ht]
    by_cases h : x ∈ s
    · rw [if_pos h]; exact ⟨t, rfl⟩
    · rw [if_neg h]; exact ⟨x :: t, by simp⟩
theorem seenE_takeU (es : List (Ent α)) (k : Nat) : ∃ t, seenEU es = seenEU (es.take k) ++ t := by
  obtain ⟨t, ht⟩ := seenE_preU (es.drop k) (seenEU (es.take k))
  refine ⟨t, ?_⟩
  rw [← ht]; unfold seenEU; rw [← List.foldl_append, List.take_append_drop]
theorem mem_seenEU : ∀ (l : List (Ent α)) (x : Ent α) (s : List (Ent α)), x ∈ l.foldl (fun s x => if x ∈ s then s else s ++ [x]) s ↔ x ∈ s ∨ x ∈ l
  | [], x, s => by simp
  | y :: l, x, s => by
    rw [List.foldl_cons, mem_seenEU l x]
    by_cases h : y ∈ s
    · rw [if_pos h, List.mem_cons]
      exact ⟨fun h' => h'.imp id .inr, fun h' => h'.elim .inl fun h' => h'.elim (fun e => .inl (e ▸ h)) .inr⟩
    · rw [if_neg h, List.mem_append, List.mem_singleton, List.mem_cons]
      exact ⟨fun h' => h'.elim (fun h' => h'.imp id .inl) fun h' => .inr (.inr h'), fun h' => h'.elim (fun h' => .inl (.inl h')) fun h' => h'.elim (fun e => .inl (.inr e)) .inr⟩
theorem mem_seenE0U {l : List (Ent α)} {x : Ent α} : x ∈ seenEU l ↔ x ∈ l := by unfold seenEU; rw [mem_seenEU]; simp
end
/-- The number of an entry: the place at which it is new. -/
noncomputable def numEU (es : List (Ent Unit)) (e : Ent Unit) : Int := posE (seenEU es) e
noncomputable def clsEU (es : List (Ent Unit)) : List Int := tabTo (fun j => numEU es (atE es (j : Int))) es.length
theorem posE_preU {s t : List (Ent Unit)} {e : Ent Unit} (h : e ∈ s) : posE (s ++ t) e = posE s e := by
  unfold posE
  rw [if_pos h, if_pos (List.mem_append_left _ h), List.idxOf_append, if_pos h]
theorem numE_oldU {es : List (Ent Unit)} {k : Nat} {e : Ent Unit} (h : e ∈ seenEU (es.take k)) : numEU es e = posE (seenEU (es.take k)) e := by
  obtain ⟨t, ht⟩ := seenE_takeU es k
  unfold numEU; rw [ht, posE_preU h]
theorem takeE_snocU {es : List (Ent Unit)} {k : Nat} (hk : k < es.length) : es.take (k + 1) = es.take k ++ [atE es (k : Int)] := (takeE_succ hk).symm
theorem seenE_tU {es : List (Ent Unit)} {k : Nat} (hk : k < es.length) (h : atE es (k : Int) ∉ seenEU (es.take k)) : seenEU (es.take (k + 1)) = seenEU (es.take k) ++ [atE es (k : Int)] := by rw [takeE_snocU hk, seenE_snocU, if_neg h]
theorem seenE_fU {es : List (Ent Unit)} {k : Nat} (hk : k < es.length) (h : atE es (k : Int) ∈ seenEU (es.take k)) : seenEU (es.take (k + 1)) = seenEU (es.take k) := by rw [takeE_snocU hk, seenE_snocU, if_pos h]
theorem seenE_t2U {es : List (Ent Unit)} {k : Nat} (hk : k < es.length) (h : atE es (k : Int) ∉ seenEU (es.take k)) : seenEU (es.take k) ++ [((atE es (k : Int)).1, (atE es (k : Int)).2.1, (atE es (k : Int)).2.2)] = seenEU (es.take (k + 1)) := (seenE_tU hk h).symm
theorem numE_newU {es : List (Ent Unit)} {k : Nat} (hk : k < es.length) (h : atE es (k : Int) ∉ seenEU (es.take k)) : numEU es (atE es (k : Int)) = ((seenEU (es.take k)).length : Int) := by
  have hm : atE es (k : Int) ∈ seenEU (es.take (k + 1)) := by rw [seenE_tU hk h]; simp
  rw [numE_oldU hm, seenE_tU hk h]
  unfold posE
  rw [if_pos (by simp), List.idxOf_append, if_neg h]
  simp
theorem numE_rngU {es : List (Ent Unit)} {k : Nat} {e : Ent Unit} (h : e ∈ seenEU (es.take k)) : 0 ≤ numEU es e ∧ numEU es e < ((seenEU (es.take k)).length : Int) := by
  rw [numE_oldU h]; unfold posE; rw [if_pos h]
  have := List.idxOf_lt_length_of_mem h
  omega
theorem numE_injU {es : List (Ent Unit)} {e f : Ent Unit} (he : e ∈ es) (hf : f ∈ es) (h : numEU es e = numEU es f) : e = f := by
  have he := mem_seenE0U.2 he; have hf := mem_seenE0U.2 hf
  unfold numEU posE at h
  rw [if_pos he, if_pos hf] at h
  have h : (seenEU es).idxOf e = (seenEU es).idxOf f := by omega
  have h1 := List.getElem_idxOf (List.idxOf_lt_length_of_mem he); have h2 := List.getElem_idxOf (List.idxOf_lt_length_of_mem hf)
  rw [← h1, ← h2]; simp only [h]
theorem clsE_lenU (es : List (Ent Unit)) : (clsEU es).length = es.length := tabTo_len _ _
theorem clsE_atU {es : List (Ent Unit)} {k : Nat} (h : k < es.length) : (clsEU es).getD k 0 = numEU es (atE es (k : Int)) := by rw [← at0_nat]; exact tabTo_at _ h
theorem clsE_seenU (es : List (Ent Unit)) : ∀ k, k ≤ es.length → seenOf ((clsEU es).take k) = upTo 0 (seenEU (es.take k)).length := by
  intro k
  induction k with
  | zero => intro _; simp [seenOf, seenEU, upTo]
  | succ k ih =>
    intro hk
    have h := ih (by omega)
    rw [take_snoc (by rw [clsE_lenU]; omega), seenOf_snoc, h, clsE_atU (by omega)]
    by_cases hm : atE es (k : Int) ∈ seenEU (es.take k)
    · have hr := numE_rngU hm
      rw [if_pos (mem_upTo hr.1 hr.2), seenE_fU (by omega) hm]
    · rw [numE_newU (by omega) hm, if_neg (not_mem_upTo (.inr (Int.le_refl _))), seenE_tU (by omega) hm, List.length_append, ← upTo_succ]; rfl
theorem idx_upToU {m : Nat} {x : Int} (h0 : 0 ≤ x) (h1 : x < m) : ((upTo 0 m).idxOf x : Int) = x := by
  have hm := mem_upTo h0 h1
  have hl := List.idxOf_lt_length_of_mem hm
  have h := List.getElem_idxOf hl
  simp only [upTo, List.getElem_map, List.getElem_range] at h
  simp only [upTo]; omega
theorem clsE_properU (es : List (Ent Unit)) : clsEU es = clsOf (clsEU es) := by
  refine List.ext_getElem (by rw [clsOf_len]) fun k h1 h2 => ?_
  rw [clsE_lenU] at h1
  have e1 : (clsEU es)[k]'(by rw [clsE_lenU]; exact h1) = (clsEU es).getD k 0 := by rw [List.getD_eq_getElem?_getD, List.getElem?_eq_getElem (by rw [clsE_lenU]; exact h1)]; rfl
  have e2 : (clsOf (clsEU es))[k]'h2 = (clsOf (clsEU es)).getD k 0 := by rw [List.getD_eq_getElem?_getD, List.getElem?_eq_getElem h2]; rfl
  rw [e1, e2, clsOf_getD (by rw [clsE_lenU]; exact h1), clsE_seenU es k (by omega), clsE_atU h1]
  by_cases hm : atE es (k : Int) ∈ seenEU (es.take k)
  · have hr := numE_rngU hm
    exact (idx_upToU hr.1 hr.2).symm
  · rw [numE_newU h1 hm, List.idxOf_eq_length (not_mem_upTo (.inr (Int.le_refl _))), upTo_length]
theorem clsE_eqU {es : List (Ent Unit)} {i j : Nat} (hi : i < es.length) (hj : j < es.length) : (clsEU es).getD i 0 = (clsEU es).getD j 0 ↔ atE es (i : Int) = atE es (j : Int) := by
  rw [clsE_atU hi, clsE_atU hj]
  exact ⟨fun h => numE_injU (atE_mem hi) (atE_mem hj) h, fun h => by rw [h]⟩
def fillU (φ : Nat → Ent Unit) (n k : Nat) : List (Ent Unit) := (List.range n).map fun j => if j < k then φ j else entU0
theorem fillU_zero (φ : Nat → Ent Unit) (n : Nat) : List.replicate n entU0 = fillU φ n 0 := by
  refine List.ext_getElem (by simp [fillU]) fun j h1 h2 => by simp [fillU]
theorem fillU_len (φ : Nat → Ent Unit) (n k : Nat) : (fillU φ n k).length = n := by simp [fillU]
theorem fillU_set (φ : Nat → Ent Unit) {n k : Nat} (h : k < n) : (fillU φ n k).set ((k : Int)).toNat (φ k) = fillU φ n (k + 1) := by
  refine List.ext_getElem (by simp [fillU]) fun j h1 h2 => ?_
  simp only [fillU, List.getElem_set, List.getElem_map, List.getElem_range, Int.toNat_natCast]
  by_cases e : k = j
  · subst e; rw [if_pos rfl, if_pos (by omega)]
  · rw [if_neg e]
    by_cases hj : j < k
    · rw [if_pos hj, if_pos (by omega)]
    · rw [if_neg hj, if_neg (by omega)]

set_option maxHeartbeats 1000000 in
set_option maxRecDepth 100000 in
theorem partByU_any (w : World) (va : Value) (es : List (Ent Unit)) (hE : RdE lab_un w va es) (hl : es.length ≤ 100000) :
    Calls Try.prog 55 #[va] w (RetL w (clsEU es)) := by
  obtain ⟨aa, ac, rfl⟩ := lenV_E hE
  go_enter Try.func55, Try.ntmps55
  refine gc_enter (N := 39) rfl (look_cons (k := 0) rfl (look_nil _)) ?_
  refine gc_seq fun K1 hK1 => ?_
  refine gc_region ?_
  refine g_v (.free rfl) rfl rfl (qt_assign rfl rfl) ?_
  refine g_nil ?_
  refine gk_then (hK1 _ _ ?_)
  refine gc_seq fun K2 hK2 => ?_
  refine gc_region ?_
  refine g_op (.free rfl) fun K4 hK4 => ?_
  refine go_makeNum lab_un rfl rfl rfl ?_
  intro B3
  refine hK4 _ _ ?_
  refine g_v (.free rfl) rfl rfl (qt_assign rfl rfl) ?_
  refine g_nil ?_
  refine gk_then (hK2 _ _ ?_)
  refine gc_seq fun K5 hK5 => ?_
  refine gc_region ?_
  refine g_v (.free rfl) rfl rfl (qt_move rfl rfl) ?_
  refine g_v (.free rfl) rfl rfl (qt_len rfl rfl (lab_ul lab_un) (fun w M => lenV_E (mem_rdE M hE))) ?_
  refine g_op (.free rfl) fun K7 hK7 => ?_
  refine go_make1 rfl rfl rfl Try.underlying66 rfl rfl (by omega) ?_
  intro B6
  refine hK7 _ _ ?_
  refine g_v (.free rfl) rfl rfl (qt_assign rfl rfl) ?_
  refine g_nil ?_
  refine gk_then (hK5 _ _ ?_)
  refine gc_seq fun K8 hK8 => ?_
  refine gc_seq fun K9 hK9 => ?_
  refine gc_region ?_
  refine g_v (.free rfl) rfl rfl (qt_move rfl rfl) ?_
  refine g_v (.free rfl) rfl rfl (qt_len rfl rfl (lab_ul lab_un) (fun w M => lenV_E (mem_rdE M hE))) ?_
  refine g_v (.free rfl) rfl rfl (qt_move rfl rfl) ?_
  refine g_nil ?_
  refine gk_then (hK9 _ _ ?_)
  refine gc_block ?_
  rw [fillTo_zero (fun j => numEU es (atE es (j : Int))) es.length]
  try simp only [List.nil_append, List.cons_append, List.append_assoc, List.set_cons_succ, List.set_cons_zero]
  refine gc_loop ([(0, _), (2, _), (3, _), (4, _), (13, _), (14, _)] : Env) (fun s : Nat => (fun (k : Nat) => ([(15, .int .i64 (k : Int))] : Env)) s) (fun s : Nat => (fun (k : Nat) => ([(0, numI lab_un B3 (seenEU (es.take k))), (1, own1I (.slice (some ⟨B6, 0, none⟩) es.length es.length) (fillTo (fun j => numEU es (atE es (j : Int))) es.length k))] : List (Nat × Itm))) s) (fun s : Nat => (fun (k : Nat) => k ≤ es.length) s) (fun s : Nat => (fun (k : Nat) => es.length - k) s) (0) (sub_cons rfl (sub_cons rfl (sub_cons rfl (sub_cons rfl (sub_cons rfl (sub_cons rfl (sub_cons rfl sub_nil))))))) rfl (Nat.zero_le _) ?_
  rintro k hinv KL10 hKL10
  simp only [updL, List.foldl_cons, List.foldl_nil, List.set_cons_succ, List.set_cons_zero, List.cons_append, List.nil_append] at hinv hKL10 ⊢
  have hk := hinv
  have hfl := fillTo_len (fun j => numEU es (atE es (j : Int))) es.length k
  refine gc_seq fun K11 hK11 => ?_
  refine gc_region ?_
  refine g_v (.free rfl) rfl rfl (qt_lss rfl rfl rfl) ?_
  refine g_nil ?_
  refine gk_then (hK11 _ _ ?_)
  refine gc_seq fun K12 hK12 => ?_
  refine gc_cond rfl (fun hc0 => ?_) (fun hc0 => ?_)
  · try simp only [decide_eq_true_eq, decide_eq_false_iff_not, Bool.not_eq_true', Bool.not_eq_false', Bool.not_eq_eq_eq_not, Bool.not_true, Bool.not_false, ne_eq, Decidable.not_not, Classical.not_not] at hc0
    refine gc_skip ?_
    refine gk_then (hK12 _ _ ?_)
    refine gc_seq fun K13 hK13 => ?_
    refine gc_block ?_
    refine gc_seq fun K14 hK14 => ?_
    refine gc_region ?_
    refine g_v (.free rfl) rfl rfl (qt_move rfl rfl) ?_
    refine g_v (.free rfl) rfl rfl (qt_indexE lab_un rfl rfl rfl rfl (fun w M => lenA_E (mem_rdE M hE)) (by omega) (by omega)) ?_
    refine g_v (.free rfl) rfl rfl (qt_loadE lab_un rfl rfl rfl (fun w M => mem_rdE M hE) (by omega) (by omega)) ?_
    refine g_op (.free rfl) fun K16 hK16 => ?_
    refine go_alloc (z := (.agg #[.int .i64 0, .int .i64 0])) (cs := [.int .i64 0, .int .i64 0]) rfl rfl rfl (fun w => by kernel_rfl) rfl ?_
    intro B15
    refine hK16 _ _ ?_
    refine g_v (.free rfl) rfl rfl (qt_assign rfl rfl) ?_
    refine g_op (.free rfl) fun K17 hK17 => ?_
    refine go_storeS (n := 2) rfl rfl rfl rfl (by kernel_rfl) rfl rfl rfl ?_
    refine hK17 _ _ ?_
    refine g_nil ?_
    refine gk_then (hK14 _ _ ?_)
    refine gc_seq fun K18 hK18 => ?_
    refine gc_region ?_
    refine g_v (.free rfl) rfl rfl (qt_move rfl rfl) ?_
    refine g_v (.free rfl) rfl rfl (qt_loadS (n := 2) rfl rfl Try.underlying65 rfl (by kernel_rfl) rfl) ?_
    refine g_v (.free rfl) rfl rfl (qt_lookN2 lab_un rfl rfl rfl rfl (fun w M => mem_numN (n := 0) M rfl)) ?_
    refine g_v (.free rfl) rfl rfl (qt_move rfl rfl) ?_
    refine g_v (.free rfl) rfl rfl (qt_extract rfl rfl rfl) ?_
    refine g_v (.free rfl) rfl rfl (qt_extract rfl rfl rfl) ?_
    refine g_v (.free rfl) rfl rfl (qt_assign rfl rfl) ?_
    refine g_v (.free rfl) rfl rfl (qt_assign rfl rfl) ?_
    refine g_nil ?_
    refine gk_then (hK18 _ _ ?_)
    refine gc_seq fun K19 hK19 => ?_
    refine gc_seq fun K20 hK20 => ?_
    refine gc_region ?_
    refine g_v (.free rfl) rfl rfl (qt_move rfl rfl) ?_
    refine g_v (.free rfl) rfl rfl (qt_not rfl rfl) ?_
    refine g_nil ?_
    refine gk_then (hK20 _ _ ?_)
    refine gc_cond rfl (fun hc1 => ?_) (fun hc1 => ?_)
    · try simp only [decide_eq_true_eq, decide_eq_false_iff_not, Bool.not_eq_true', Bool.not_eq_false', Bool.not_eq_eq_eq_not, Bool.not_true, Bool.not_false, ne_eq, Decidable.not_not, Classical.not_not] at hc1
      refine gc_seq fun K21 hK21 => ?_
      refine gc_region ?_
      refine g_v (.free rfl) rfl rfl (qt_move rfl rfl) ?_
      refine g_v (.free rfl) rfl rfl (qt_lenN lab_un rfl rfl rfl (fun w M => mem_numN (n := 0) M rfl)) ?_
      refine g_v (.free rfl) rfl rfl (qt_assign rfl rfl) ?_
      refine g_nil ?_
      refine gk_then (hK21 _ _ ?_)
      refine gc_region ?_
      refine g_v (.free rfl) rfl rfl (qt_move rfl rfl) ?_
      refine g_v (.free rfl) rfl rfl (qt_loadS (n := 2) rfl rfl Try.underlying65 rfl (by kernel_rfl) rfl) ?_
      refine g_v (.free rfl) rfl rfl (qt_move rfl rfl) ?_
      refine g_op (.free rfl) fun K22 hK22 => ?_
      refine go_putN lab_un (n := 0) rfl rfl rfl rfl rfl rfl rfl (by assumption) (by simp) ?_
      refine hK22 _ _ ?_
      refine g_nil ?_
      refine gk_then (hK19 _ _ ?_)
      refine gc_region ?_
      refine g_v (.free rfl) rfl rfl (qt_move rfl rfl) ?_
      refine g_v (.free rfl) rfl rfl (qt_move rfl rfl) ?_
      refine g_v (.free rfl) rfl rfl (qt_move rfl rfl) ?_
      refine g_v (.free rfl) rfl rfl (qt_index rfl rfl rfl ulEP szEP (fun w M => lenA_own1 (n := 1) rfl M) (by omega) (by omega)) ?_
      refine g_op (.free rfl) fun K23 hK23 => ?_
      refine go_store1 (n := 1) rfl rfl rfl rfl (by kernel_rfl) rfl (by omega) (by omega) ?_
      refine hK23 _ _ ?_
      refine g_nil ?_
      refine gk_block ?_
      refine gk_then (hK13 _ _ ?_)
      refine gc_region ?_
      refine g_v (.free rfl) rfl rfl (qt_add rfl rfl rfl (by omega)) ?_
      refine g_v (.free rfl) rfl rfl (qt_move rfl rfl) ?_
      refine g_nil ?_
      rw [seenE_t2U (es := es) (k := k) (by omega) hc1, fillTo_set' (φ := fun j => numEU es (atE es (j : Int))) (by omega) (numE_newU (by omega) hc1)]
      refine gk_then (gk_take 2 ?_)
      refine gk_sub ?hs_24 (hKL10 (k + 1) ?hi_24 ?hm_24)
      case hs_24 => exact (sub_cons rfl (sub_cons rfl (sub_cons rfl (sub_cons rfl (sub_cons rfl (sub_cons rfl (sub_cons rfl sub_nil)))))))
      case hi_24 => omega
      case hm_24 => omega
    · try simp only [decide_eq_true_eq, decide_eq_false_iff_not, Bool.not_eq_true', Bool.not_eq_false', Bool.not_eq_eq_eq_not, Bool.not_true, Bool.not_false, ne_eq, Decidable.not_not, Classical.not_not] at hc1
      refine gc_skip ?_
      refine gk_then (hK19 _ _ ?_)
      refine gc_region ?_
      refine g_v (.free rfl) rfl rfl (qt_move rfl rfl) ?_
      refine g_v (.free rfl) rfl rfl (qt_move rfl rfl) ?_
      refine g_v (.free rfl) rfl rfl (qt_move rfl rfl) ?_
      refine g_v (.free rfl) rfl rfl (qt_index rfl rfl rfl ulEP szEP (fun w M => lenA_own1 (n := 1) rfl M) (by omega) (by omega)) ?_
      refine g_op (.free rfl) fun K25 hK25 => ?_
      refine go_store1 (n := 1) rfl rfl rfl rfl (by kernel_rfl) rfl (by omega) (by omega) ?_
      refine hK25 _ _ ?_
      refine g_nil ?_
      refine gk_block ?_
      refine gk_then (hK13 _ _ ?_)
      refine gc_region ?_
      refine g_v (.free rfl) rfl rfl (qt_add rfl rfl rfl (by omega)) ?_
      refine g_v (.free rfl) rfl rfl (qt_move rfl rfl) ?_
      refine g_nil ?_
      rw [fillTo_set' (φ := fun j => numEU es (atE es (j : Int))) (by omega) (numE_oldU hc1), ← seenE_fU (es := es) (k := k) (by omega) hc1]
      refine gk_then (gk_take 2 ?_)
      refine gk_sub ?hs_26 (hKL10 (k + 1) ?hi_26 ?hm_26)
      case hs_26 => exact (sub_cons rfl (sub_cons rfl (sub_cons rfl (sub_cons rfl (sub_cons rfl (sub_cons rfl (sub_cons rfl sub_nil)))))))
      case hi_26 => omega
      case hm_26 => omega
  · try simp only [decide_eq_true_eq, decide_eq_false_iff_not, Bool.not_eq_true', Bool.not_eq_false', Bool.not_eq_eq_eq_not, Bool.not_true, Bool.not_false, ne_eq, Decidable.not_not, Classical.not_not] at hc0
    refine gc_exit ?_
    refine gk_then_exit ?_
    refine gk_then_exit ?_
    refine gk_block_hit ?_
    refine gk_then (hK8 _ _ ?_)
    refine gc_seq fun K27 hK27 => ?_
    refine gc_region ?_
    refine g_v (.free rfl) rfl rfl (qt_move rfl rfl) ?_
    refine g_v (.free rfl) rfl rfl (qt_assign rfl rfl) ?_
    refine g_nil ?_
    refine gk_then (hK27 _ _ ?_)
    refine gc_ret ?_
    refine ret_1 rfl rfl  (fun w M => ?_)
    obtain rfl : k = es.length := by omega
    rw [fillTo_end] at M
    exact ⟨_, rfl, mem_own1 (n := 1) M rfl, M.1⟩

end Go.Proofs.Ytgkfampgofjkfaa
