
/- Lists of entries (two ends and a label) whose labels need not be compared: what they are in memory, and rules of a walk over them. After Ent.t. -/
import Derived.Test.YtgkfampgofjkfaaEnt
import Derived.Deep.MidRow
set_option linter.unusedSimpArgs false
set_option linter.unusedVariables false
set_option linter.unusedSectionVars false
namespace Go.Proofs.Ytgkfampgofjkfaa
open Go.RowKit
/-- A kind of label: its cells, and the types of entries with it. -/
structure Lab0 (α : Type) where
  z : Nat
  lc : α → List Value
  tE : TypeId
  tS : TypeId
  bts : Nat
  zc : Value
  td : TypeDesc
  len : ∀ l, (lc l).length = z
  one : ∀ l, (lc l).all (·.oneCell') = true
  inf : (Try.prog.info? tE).map (fun i => (i.zero, i.size, i.bytes)) = some (some zc, z + 2, bts)
  zl : zc.cells.size = z + 2
  cap : Nat
  hc1 : 1 ≤ cap
  hc2 : cap ≤ 17592186044415
  hcb : cap * bts ≤ 140737488355328
  hz : z ≤ 64
  ud : Try.prog.underlying tE = some td
  row : td.isRow = true
  ul : Try.prog.underlying tS = some (.slice tE)
  el : Try.prog.elem tS = tE
variable {α : Type}
def enc0 (L : Lab0 α) (e : Ent α) : List Value := Value.int .i64 e.1 :: Value.int .i64 e.2.1 :: L.lc e.2.2
def encA0 (L : Lab0 α) (e : Ent α) : Value := .agg (enc0 L e).toArray
theorem enc_len0 (L : Lab0 α) (e : Ent α) : (enc0 L e).length = L.z + 2 := by simp [enc0, L.len]
theorem enc_one0 (L : Lab0 α) (e : Ent α) : (enc0 L e).all (·.oneCell') = true := by
  have := L.one e.2.2
  simp only [enc0, List.all_cons, this]; rfl
theorem lab_size0 (L : Lab0 α) : (Try.prog.info? L.tE).map (·.size) = some (L.z + 2) := by
  obtain ⟨i, hi, _, hs, _⟩ := info_parts L.inf
  simp [hi, hs]
theorem lab_ul0 (L : Lab0 α) : Try.prog.underlying L.tS = some (.slice (Try.prog.elem L.tS)) := by rw [L.el]; exact L.ul
theorem flat_len0 (L : Lab0 α) (es : List (Ent α)) : (es.flatMap (enc0 L)).length = es.length * (L.z + 2) := by
  induction es with
  | nil => simp
  | cons e es ih => simp [List.flatMap_cons, ih, enc_len0, Nat.succ_mul]; omega
theorem flat_at0 (L : Lab0 α) : ∀ (es : List (Ent α)) {j : Nat} (hj : j < es.length) {c : Nat}, c < L.z + 2 → (es.flatMap (enc0 L))[j * (L.z + 2) + c]? = (enc0 L es[j])[c]?
  | [], j, hj, _, _ => by simp at hj
  | e :: es, 0, _, c, hc => by rw [List.flatMap_cons, List.getElem?_append_left (by rw [enc_len0]; omega)]; simp
  | e :: es, j + 1, hj, c, hc => by
    rw [List.flatMap_cons, List.getElem?_append_right (by rw [enc_len0, Nat.succ_mul]; omega), enc_len0, show (j + 1) * (L.z + 2) + c - (L.z + 2) = j * (L.z + 2) + c from by rw [Nat.succ_mul]; omega]
    simpa using flat_at0 L es (j := j) (by simpa using hj) hc
theorem flat_one0 (L : Lab0 α) (es : List (Ent α)) : ∀ u ∈ es.flatMap (enc0 L), u.oneCell' = true := by
  intro u hu
  obtain ⟨e, _, he⟩ := List.mem_flatMap.1 hu
  exact List.all_eq_true.1 (enc_one0 L e) u he
def OwnE0 (L : Lab0 α) (v : Value) (es : List (Ent α)) (w : World) (S : Nat → Prop) : Prop := w.ownsRow 0 L.tE (L.z + 2) v es.length (es.flatMap (enc0 L)) ∧ es.length ≤ L.cap ∧ ∀ q, v.ownBlock = some q → S q
theorem ownE_loc0 (L : Lab0 α) (v : Value) (es : List (Ent α)) : Loc (OwnE0 L v es) where
  keep hs ha h := ⟨own_agree h.1 fun q hq e => ha q hq (h.2.2 q e), h.2.1, fun q hq => hs q (h.1.lt q hq).2 (h.2.2 q hq)⟩
/-- A list of entries of the call's own. -/
def ownEI0 (L : Lab0 α) (v : Value) (es : List (Ent α)) : Itm := ⟨_, ownE_loc0 L v es⟩
def RdE0 (L : Lab0 α) (w : World) (v : Value) (es : List (Ent α)) : Prop :=
  ∃ (a : Option Addr) (cap : Nat), v = .slice a es.length cap ∧ es.length ≤ L.cap ∧
    (0 < es.length → ∃ b off, a = some ⟨b, off, none⟩ ∧ b < w.heap.size ∧ ∀ j (hj : j < es.length), w.rangeAt b (off + j * (L.z + 2)) (enc0 L es[j]))
theorem rdE_below0 {L : Lab0 α} {w w' : World} {v : Value} {es : List (Ent α)} (hb : Below w.heap.size w w') (h : RdE0 L w v es) : RdE0 L w' v es := by
  obtain ⟨a, cap, hv, hl, hc⟩ := h
  refine ⟨a, cap, hv, hl, fun h0 => ?_⟩
  obtain ⟨b, off, ha, hbs, hcell⟩ := hc h0
  exact ⟨b, off, ha, Nat.lt_of_lt_of_le hbs hb.size, fun j hj i u hu => (hb.cell (p := ⟨b, _, none⟩) hbs).trans (hcell j hj i u hu)⟩
theorem OwnE0.rd {L : Lab0 α} {w : World} {S : Nat → Prop} {v : Value} {es : List (Ent α)} (h : OwnE0 L v es w S) : RdE0 L w v es := by
  obtain ⟨h1, h2, h3⟩ := h
  rcases h1.2 with ⟨hv, hn⟩ | ⟨g, cap, cur, hv, _, hg, _⟩
  · exact ⟨none, 0, by rw [hv, hn], h2, fun h => by omega⟩
  · refine ⟨some ⟨g, 0, none⟩, cap, hv, h2, fun _ => ⟨g, 0, rfl, (Array.getElem?_eq_some_iff.1 hg).1, fun j hj c u hu => ?_⟩⟩
    have hc : c < L.z + 2 := by
      have := (List.getElem?_eq_some_iff.1 hu).1
      rwa [enc_len0] at this
    have hf := flat_at0 L es hj hc
    rw [hu] at hf
    have hlt := (List.getElem?_eq_some_iff.1 hf).1
    rw [Nat.zero_add]
    subst hv
    have := h1.cells (g := g) rfl (j * (L.z + 2) + c) u hf
    rw [Addr.add_mid, Nat.zero_add] at this
    exact this
theorem ownE_form0 {L : Lab0 α} {w : World} {S : Nat → Prop} {v : Value} {es : List (Ent α)} (h : OwnE0 L v es w S) : ∃ a cap, v = .slice a es.length cap := let ⟨a, cap, hv, _⟩ := h.rd; ⟨a, cap, hv⟩
/-- An entry's place in a list of entries. -/
@[irreducible] def atE0 [Inhabited α] (es : List (Ent α)) (i : Int) : Ent α := es.getD i.toNat default
def eltE0 (z : Nat) (v : Value) (i : Int) : Value := match v with | .slice (some a) _ _ => .pointer (some ⟨a.block, a.off + i.toNat * z, none⟩) | _ => .pointer none
section
variable {w0 : World} {is : List Itm} {ops : Array Oper} {Q : Exit → Act → World → Prop} {o : Oper} {rest : List Oper} {N : Frm} {e : Env} {v : Value} {d : Nat} {K : Act → World → Prop}
theorem mem_rdE0 {L : Lab0 α} {w : World} {es : List (Ent α)} (M : Mem w0 w is) (h : RdE0 L w0 v es) : RdE0 L w v es := rdE_below0 M.1 h
theorem mem_ownE0 {L : Lab0 α} {w : World} {n : Nat} {es : List (Ent α)} (M : Mem w0 w is) (h : is[n]? = some (ownEI0 L v es)) : RdE0 L w v es := by
  obtain ⟨S, _, hb⟩ := mem_get M h
  exact OwnE0.rd (S := S) hb
theorem lenV_E0 {L : Lab0 α} {w : World} {es : List (Ent α)} (h : RdE0 L w v es) : LenV v es.length := let ⟨a, cap, hv, _⟩ := h; ⟨a, cap, hv⟩
theorem lenA_E0 {L : Lab0 α} {w : World} {es : List (Ent α)} (h : RdE0 L w v es) : LenA v es.length := let ⟨a, cap, hv, _, hc⟩ := h; ⟨a, cap, hv, fun h0 => let ⟨b, off, ha, _⟩ := hc h0; ⟨b, off, ha⟩⟩
theorem qt_indexE0 (L : Lab0 α) {x y : Operand} {t : TypeId} {n : Nat} {i : Int} (hop : o.op = .indexAddr t x y) (hx : evo e x = some (v)) (hy : evo e y = some (.int .i64 i)) (ht : t = L.tS)
    (hl : ∀ w, Mem w0 w is → LenA v n) (h0 : 0 ≤ i) (h1 : i < (n : Int)) : QV w0 is o e (eltE0 (L.z + 2) v i) :=
  fun w ac M F => by
    subst ht
    have hx := F _ _ hx; have hy := F _ _ hy
    obtain ⟨a, cap, rfl, ha⟩ := hl w M
    obtain ⟨b, off, rfl⟩ := ha (by omega)
    have hI := info_parts L.inf
    obtain ⟨ii, hi, hz, hs, hb⟩ := hI
    simp only [execOp, hop, hx, hy, run_indexAt_slice _ _ _ _ _ _ _ (lab_ul0 L), L.el, h0, h1, and_self, if_true, sizeOf, typeInfo, hi, hs, eltE0, Sem.run_bind, Sem.run_pure, Result.andThen_ok, run_program, Addr.add_mid]
theorem qt_loadE0 [Inhabited α] (L : Lab0 α) {x : Operand} {t : TypeId} {u : Value} {es : List (Ent α)} {i : Int} (hop : o.op = .load t x) (hx : evo e x = some (eltE0 (L.z + 2) u i)) (ht : t = L.tE)
    (hr : ∀ w, Mem w0 w is → RdE0 L w u es) (h0 : 0 ≤ i) (h1 : i < es.length) : QV w0 is o e (encA0 L (atE0 es i)) :=
  fun w ac M F => by
    subst ht
    have hx := F _ _ hx
    obtain ⟨a, cap, rfl, _, hc⟩ := hr w M
    obtain ⟨b, off, rfl, _, hcell⟩ := hc (by omega)
    have hlt : i.toNat < es.length := by omega
    have hcc := hcell i.toNat hlt
    have he : atE0 es i = es[i.toNat] := by simp [atE0, List.getD_eq_getElem?_getD, List.getElem?_eq_getElem hlt]
    rw [← he] at hcc
    simp [execOp, hop, hx, eltE0, encA0, run_loadAt_mid w b (off + i.toNat * (L.z + 2)) L.tE (enc0 L (atE0 es i)) L.td hcc L.ud L.row (by rw [lab_size0, enc_len0])]
theorem go_sliceE10 (L : Lab0 α) {t : TypeId} {x : Operand} {a b : Int} {l : α} (hd : o.dst = some d) (hN : Nat.blt d N = true) (hop : o.op = .buildSlice t 1 #[(0, x)]) (hx : evo e x = some (.agg (Value.int .i64 a :: Value.int .i64 b :: L.lc l).toArray)) (ht : t = L.tS)
    (hk : ∀ B : Nat, GK w0 (is ++ [ownEI0 L (.slice (some ⟨B, 0, none⟩) 1 1) [(a, b, l)]]) N K ((d, .slice (some ⟨B, 0, none⟩) 1 1) :: e)) : GO w0 is N o e Q K := by
  subst ht
  obtain ⟨en, hen⟩ : ∃ en : Ent α, en = (a, b, l) := ⟨_, rfl⟩
  have hx : evo e x = some (encA0 L en) := by rw [hen]; exact hx
  rw [← hen] at hk
  intro w ac M F
  have hO : OwnE0 L (.slice (some ⟨w.heap.size, 0, none⟩) 1 1) [en] (w.alloc (.cells (enc0 L en).toArray L.tE)) (fun k => w.heap.size ≤ k) := by
    refine ⟨⟨by simp [enc_len0], .inr ⟨w.heap.size, 1, (enc0 L en).toArray, rfl, Nat.zero_le _, heap_alloc_new w _, Nat.le_refl _, by unfold maxLen; omega, by simp [enc_len0], ?_⟩⟩, L.hc1, fun q hq => by simp [Value.ownBlock] at hq; omega⟩
    simp [enc_len0]
    exact List.take_of_length_le (by simp [enc_len0])
  refine go_val (v := .slice (some ⟨w.heap.size, 0, none⟩) 1 1) (w' := w.alloc (.cells (enc0 L en).toArray L.tE)) hd hN F ?_ fun ac F => hk _ _ ac (mem_new M (below_alloc w _) hO) F
  intro ρ F; have hx := F _ _ hx
  obtain ⟨i, hi, hz, hs, hb⟩ := info_parts L.inf
  have hcl : (encA0 L en).cells = (enc0 L en).toArray := rfl
  have hsz : (enc0 L en).toArray.size = L.z + 2 := by simp [enc_len0]
  have h24 : ¬ 16777216 < L.z + 2 := by have := L.hz; omega
  have hcs : (encA0 L en).cells.size = L.z + 2 := by rw [hcl, hsz]
  have hfold := fold_set (enc0 L en) 0 (Array.map (fun x => L.zc.cells[x % L.zc.cells.size]!) (Array.range (L.z + 2))) (by simp [enc_len0])
  simp [execOp, hop, hx, Instr.buildSlice, run_underlying L.ul, sizeOf, typeInfo, hi, hs, Instr.fill, newRow, zeroValue, hz, Sem.run_bind, range1, h24]
  rw [if_neg (by rw [hcs]; omega), hcl]
  simp
  rw [hfold]; simp
/-- 'append(s, x)': an entry behind a list of entries of the call's own. -/
theorem go_appendE0 (L : Lab0 α) {s x : Operand} {t : TypeId} {n m : Nat} {es : List (Ent α)} {u : Value} {en : Ent α} (hd : o.dst = some d) (hN : Nat.blt d N = true) (hop : o.op = .call { callee := .builtin .append, args := #[s, x], argTypes := #[t, t] }) (ht : t = L.tS)
    (hs : evo e s = some v) (hx : evo e x = some u) (hi : is[n]? = some (ownEI0 L v es)) (hj : is[m]? = some (ownEI0 L u [en])) (hn : es.length + 1 ≤ L.cap)
    (hk : ∀ a cap, GK w0 (is.set n (ownEI0 L (.slice a (es ++ [en]).length cap) (es ++ [en]))) N K ((d, .slice a (es ++ [en]).length cap) :: e)) : GO w0 is N o e Q K := by
  subst ht
  intro w ac M F
  obtain ⟨ad, cap, hu, _, hc⟩ := mem_ownE0 M hj
  obtain ⟨b, off, ha, _, hcell⟩ := hc (by simp)
  subst ha
  have hv : u = .slice (some ⟨b, off, none⟩) 1 cap := hu
  have h0 := hcell 0 (by simp)
  simp only [Nat.zero_mul, Nat.add_zero, List.getElem_cons_zero] at h0
  obtain ⟨S, hS, hp, hset⟩ := mem_set M hi
  have hp : OwnE0 L v es w S := hp
  obtain ⟨i, hi', hz, hs1, hb⟩ := info_parts L.inf
  have hc2 := L.hc2
  have hby : (es.length + 1) * L.bts ≤ 140737488355328 := Nat.le_trans (Nat.mul_le_mul_right _ hn) L.hcb
  obtain ⟨v', w', hr, hown, hgrow, _, hat⟩ := run_append_own_at (P := Try.prog) w 0 L.tS o.type L.tE i L.zc (L.z + 2) L.bts L.ul hi' hz hs1 hb L.zl (by omega) v es.length (es.flatMap (enc0 L)) hp.1 ⟨b, off, none⟩ 1 cap (enc0 L en) (by rw [enc_len0]; omega) (fun j z hz => by rw [Addr.add_mid]; exact h0 j z hz) (fun z hz => List.all_eq_true.1 (enc_one0 L en) z hz) (by unfold maxLen; omega) hby (Nat.zero_le _)
  have hO : OwnE0 L v' (es ++ [en]) w' (fun k => S k ∨ w.heap.size ≤ k) := by
    refine ⟨by simpa using hown, by simpa using hn, fun q hq => ?_⟩
    rcases hat with hat | hat
    · exact .inl (hp.2.2 q (by rw [← hat]; exact hq))
    · rw [hat] at hq
      simp only [Option.some.injEq] at hq
      exact .inr (by omega)
  obtain ⟨va, vc, rfl⟩ := ownE_form0 hO
  refine go_val (v := .slice va (es ++ [en]).length vc) (w' := w') hd hN F ?_ fun ac F => hk va vc w' ac (hset w' (ownEI0 L (.slice va (es ++ [en]).length vc) (es ++ [en])) (frS_grown hgrow hp.2.2) hO) F
  intro ρ F; have hs := F _ _ hs; have hx := F _ _ hx
  simp only [execOp, hop, resolve, invoke, builtin, Sem.run_bind, Sem.run_pure, Result.andThen_ok, List.map_toArray, List.map_cons, List.map_nil, hs, hx, hv]
  rw [hr]
  rfl
theorem mem_nilE0 (L : Lab0 α) {w : World} (M : Mem w0 w is) : Mem w0 w (is ++ [ownEI0 L (.slice none 0 0) []]) :=
  mem_new M (Below.refl _ _) ⟨World.ownsRow_nil w 0 _ _, Nat.zero_le _, fun q hq => by simp [Value.ownBlock] at hq⟩
theorem gc_nilE0 (L : Lab0 α) {c : Code} (hk : GC w0 (is ++ [ownEI0 L (.slice none 0 0) []]) N c Q e) : GC w0 is N c Q e := fun w a M F => hk w a (mem_nilE0 L M) F
theorem g_nilE0 (L : Lab0 α) (hk : G w0 (is ++ [ownEI0 L (.slice none 0 0) []]) N ops Q rest e) : G w0 is N ops Q rest e := fun w a M F => hk w a (mem_nilE0 L M) F
theorem gk_nilE0 (L : Lab0 α) (hk : GK w0 (is ++ [ownEI0 L (.slice none 0 0) []]) N K e) : GK w0 is N K e := fun w a M F => hk w a (mem_nilE0 L M) F
end
end Go.Proofs.Ytgkfampgofjkfaa
