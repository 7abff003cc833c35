
/- Lists of entries (two ends and a label) and the map that numbers them: what they are in memory, and rules of a walk over them; calls of function values; calls that change things of the caller's. -/
import Derived.Test.YtgkfampgofjkfaaTab
import Derived.Deep.MidRow
set_option linter.unusedSimpArgs false
set_option linter.unusedVariables false
set_option linter.unusedSectionVars false
namespace Go.Proofs.Ytgkfampgofjkfaa
open Go.RowKit
abbrev Ent (α : Type) := Int × Int × α
/-- A kind of label: its cells, and the types of entries with it. -/
structure Lab (α : Type) where
  z : Nat
  lc : α → List Value
  tE : TypeId
  tS : TypeId
  tM : TypeId
  bts : Nat
  zc : Value
  td : TypeDesc
  len : ∀ l, (lc l).length = z
  one : ∀ l, (lc l).all (·.oneCell') = true
  inf : (Try.prog.info? tE).map (fun i => (i.zero, i.size, i.bytes)) = some (some zc, z + 2, bts)
  zl : zc.cells.size = z + 2
  cap : Nat
  hc1 : 1 ≤ cap
  hc2 : cap ≤ 17592186044415
  hcb : cap * bts ≤ 140737488355328
  hz : z ≤ 64
  ud : Try.prog.underlying tE = some td
  row : td.isRow = true
  ul : Try.prog.underlying tS = some (.slice tE)
  el : Try.prog.elem tS = tE
  um : Try.prog.underlying tM = some (.map tE 2)
  chk : ∀ (a b : Int) (l : α) (em : Bool) (w : World), (Instr.checkKey em 10000 tE (.agg (Value.int .i64 a :: Value.int .i64 b :: lc l).toArray)).run Try.prog w = .ok () w
  eqk : ∀ (a b a' b' : Int) (l l' : α) (w : World), (Op.equal tE (.agg (Value.int .i64 a :: Value.int .i64 b :: lc l).toArray) (.agg (Value.int .i64 a' :: Value.int .i64 b' :: lc l').toArray)).run Try.prog w = .ok (bP (a = a' ∧ b = b' ∧ l = l')) w
variable {α : Type}
def enc (L : Lab α) (e : Ent α) : List Value := Value.int .i64 e.1 :: Value.int .i64 e.2.1 :: L.lc e.2.2
def encA (L : Lab α) (e : Ent α) : Value := .agg (enc L e).toArray
theorem enc_len (L : Lab α) (e : Ent α) : (enc L e).length = L.z + 2 := by simp [enc, L.len]
theorem enc_one (L : Lab α) (e : Ent α) : (enc L e).all (·.oneCell') = true := by
  have := L.one e.2.2
  simp only [enc, List.all_cons, this]; rfl
theorem lab_size (L : Lab α) : (Try.prog.info? L.tE).map (·.size) = some (L.z + 2) := by
  obtain ⟨i, hi, _, hs, _⟩ := info_parts L.inf
  simp [hi, hs]
theorem lab_ul (L : Lab α) : Try.prog.underlying L.tS = some (.slice (Try.prog.elem L.tS)) := by rw [L.el]; exact L.ul
theorem flat_len (L : Lab α) (es : List (Ent α)) : (es.flatMap (enc L)).length = es.length * (L.z + 2) := by
  induction es with
  | nil => simp
  | cons e es ih => simp [List.flatMap_cons, ih, enc_len, Nat.succ_mul]; omega
theorem flat_at (L : Lab α) : ∀ (es : List (Ent α)) {j : Nat} (hj : j < es.length) {c : Nat}, c < L.z + 2 → (es.flatMap (enc L))[j * (L.z + 2) + c]? = (enc L es[j])[c]?
  | [], j, hj, _, _ => by simp at hj
  | e :: es, 0, _, c, hc => by rw [List.flatMap_cons, List.getElem?_append_left (by rw [enc_len]; omega)]; simp
  | e :: es, j + 1, hj, c, hc => by
    rw [List.flatMap_cons, List.getElem?_append_right (by rw [enc_len, Nat.succ_mul]; omega), enc_len, show (j + 1) * (L.z + 2) + c - (L.z + 2) = j * (L.z + 2) + c from by rw [Nat.succ_mul]; omega]
    simpa using flat_at L es (j := j) (by simpa using hj) hc
theorem flat_one (L : Lab α) (es : List (Ent α)) : ∀ u ∈ es.flatMap (enc L), u.oneCell' = true := by
  intro u hu
  obtain ⟨e, _, he⟩ := List.mem_flatMap.1 hu
  exact List.all_eq_true.1 (enc_one L e) u he
def OwnE (L : Lab α) (v : Value) (es : List (Ent α)) (w : World) (S : Nat → Prop) : Prop := w.ownsRow 0 L.tE (L.z + 2) v es.length (es.flatMap (enc L)) ∧ es.length ≤ L.cap ∧ ∀ q, v.ownBlock = some q → S q
theorem ownE_loc (L : Lab α) (v : Value) (es : List (Ent α)) : Loc (OwnE L v es) where
  keep hs ha h := ⟨own_agree h.1 fun q hq e => ha q hq (h.2.2 q e), h.2.1, fun q hq => hs q (h.1.lt q hq).2 (h.2.2 q hq)⟩
/-- A list of entries of the call's own. -/
def ownEI (L : Lab α) (v : Value) (es : List (Ent α)) : Itm := ⟨_, ownE_loc L v es⟩
def RdE (L : Lab α) (w : World) (v : Value) (es : List (Ent α)) : Prop :=
  ∃ (a : Option Addr) (cap : Nat), v = .slice a es.length cap ∧ es.length ≤ L.cap ∧
    (0 < es.length → ∃ b off, a = some ⟨b, off, none⟩ ∧ b < w.heap.size ∧ ∀ j (hj : j < es.length), w.rangeAt b (off + j * (L.z + 2)) (enc L es[j]))
theorem rdE_below {L : Lab α} {w w' : World} {v : Value} {es : List (Ent α)} (hb : Below w.heap.size w w') (h : RdE L w v es) : RdE L w' v es := by
  obtain ⟨a, cap, hv, hl, hc⟩ := h
  refine ⟨a, cap, hv, hl, fun h0 => ?_⟩
  obtain ⟨b, off, ha, hbs, hcell⟩ := hc h0
  exact ⟨b, off, ha, Nat.lt_of_lt_of_le hbs hb.size, fun j hj i u hu => (hb.cell (p := ⟨b, _, none⟩) hbs).trans (hcell j hj i u hu)⟩
theorem OwnE.rd {L : Lab α} {w : World} {S : Nat → Prop} {v : Value} {es : List (Ent α)} (h : OwnE L v es w S) : RdE L w v es := by
  obtain ⟨h1, h2, h3⟩ := h
  rcases h1.2 with ⟨hv, hn⟩ | ⟨g, cap, cur, hv, _, hg, _⟩
  · exact ⟨none, 0, by rw [hv, hn], h2, fun h => by omega⟩
  · refine ⟨some ⟨g, 0, none⟩, cap, hv, h2, fun _ => ⟨g, 0, rfl, (Array.getElem?_eq_some_iff.1 hg).1, fun j hj c u hu => ?_⟩⟩
    have hc : c < L.z + 2 := by
      have := (List.getElem?_eq_some_iff.1 hu).1
      rwa [enc_len] at this
    have hf := flat_at L es hj hc
    rw [hu] at hf
    have hlt := (List.getElem?_eq_some_iff.1 hf).1
    rw [Nat.zero_add]
    subst hv
    have := h1.cells (g := g) rfl (j * (L.z + 2) + c) u hf
    rw [Addr.add_mid, Nat.zero_add] at this
    exact this
theorem ownE_form {L : Lab α} {w : World} {S : Nat → Prop} {v : Value} {es : List (Ent α)} (h : OwnE L v es w S) : ∃ a cap, v = .slice a es.length cap := let ⟨a, cap, hv, _⟩ := h.rd; ⟨a, cap, hv⟩
theorem fold_set (l : List Value) : ∀ (k : Nat) (cs : Array Value), k + l.length = cs.size → (l.zipIdx k).foldl (fun (cs : Array Value) x => cs.setIfInBounds x.2 x.1) cs = (cs.toList.take k ++ l).toArray := by
  induction l with
  | nil =>
    intro k cs h
    simp only [List.length_nil, Nat.add_zero] at h
    subst h
    rw [List.take_of_length_le (by simp)]; simp
  | cons a l ih =>
    intro k cs h
    simp only [List.length_cons] at h
    rw [List.zipIdx_cons, List.foldl_cons, ih (k + 1) _ (by simp; omega)]
    apply congrArg List.toArray
    have hk : k < cs.toList.length := by simp; omega
    have : (cs.setIfInBounds k a).toList.take (k + 1) = cs.toList.take k ++ [a] := by
      rw [Array.toList_setIfInBounds, List.take_succ_eq_append_getElem (by simpa using hk), List.take_set_of_le (Nat.le_refl k)]
      simp
    rw [this]; simp
/-- An entry's place in a list of entries. -/
@[irreducible] def atE [Inhabited α] (es : List (Ent α)) (i : Int) : Ent α := es.getD i.toNat default
def eltE (z : Nat) (v : Value) (i : Int) : Value := match v with | .slice (some a) _ _ => .pointer (some ⟨a.block, a.off + i.toNat * z, none⟩) | _ => .pointer none
section
variable {w0 : World} {is : List Itm} {ops : Array Oper} {Q : Exit → Act → World → Prop} {o : Oper} {rest : List Oper} {N : Frm} {e : Env} {v : Value} {d : Nat} {K : Act → World → Prop}
theorem mem_rdE {L : Lab α} {w : World} {es : List (Ent α)} (M : Mem w0 w is) (h : RdE L w0 v es) : RdE L w v es := rdE_below M.1 h
theorem mem_ownE {L : Lab α} {w : World} {n : Nat} {es : List (Ent α)} (M : Mem w0 w is) (h : is[n]? = some (ownEI L v es)) : RdE L w v es := by
  obtain ⟨S, _, hb⟩ := mem_get M h
  exact OwnE.rd (S := S) hb
theorem lenV_E {L : Lab α} {w : World} {es : List (Ent α)} (h : RdE L w v es) : LenV v es.length := let ⟨a, cap, hv, _⟩ := h; ⟨a, cap, hv⟩
theorem lenA_E {L : Lab α} {w : World} {es : List (Ent α)} (h : RdE L w v es) : LenA v es.length := let ⟨a, cap, hv, _, hc⟩ := h; ⟨a, cap, hv, fun h0 => let ⟨b, off, ha, _⟩ := hc h0; ⟨b, off, ha⟩⟩
theorem qt_indexE (L : Lab α) {x y : Operand} {t : TypeId} {n : Nat} {i : Int} (hop : o.op = .indexAddr t x y) (hx : evo e x = some (v)) (hy : evo e y = some (.int .i64 i)) (ht : t = L.tS)
    (hl : ∀ w, Mem w0 w is → LenA v n) (h0 : 0 ≤ i) (h1 : i < (n : Int)) : QV w0 is o e (eltE (L.z + 2) v i) :=
  fun w ac M F => by
    subst ht
    have hx := F _ _ hx; have hy := F _ _ hy
    obtain ⟨a, cap, rfl, ha⟩ := hl w M
    obtain ⟨b, off, rfl⟩ := ha (by omega)
    have hI := info_parts L.inf
    obtain ⟨ii, hi, hz, hs, hb⟩ := hI
    simp only [execOp, hop, hx, hy, run_indexAt_slice _ _ _ _ _ _ _ (lab_ul L), L.el, h0, h1, and_self, if_true, sizeOf, typeInfo, hi, hs, eltE, Sem.run_bind, Sem.run_pure, Result.andThen_ok, run_program, Addr.add_mid]
theorem qt_loadE [Inhabited α] (L : Lab α) {x : Operand} {t : TypeId} {u : Value} {es : List (Ent α)} {i : Int} (hop : o.op = .load t x) (hx : evo e x = some (eltE (L.z + 2) u i)) (ht : t = L.tE)
    (hr : ∀ w, Mem w0 w is → RdE L w u es) (h0 : 0 ≤ i) (h1 : i < es.length) : QV w0 is o e (encA L (atE es i)) :=
  fun w ac M F => by
    subst ht
    have hx := F _ _ hx
    obtain ⟨a, cap, rfl, _, hc⟩ := hr w M
    obtain ⟨b, off, rfl, _, hcell⟩ := hc (by omega)
    have hlt : i.toNat < es.length := by omega
    have hcc := hcell i.toNat hlt
    have he : atE es i = es[i.toNat] := by simp [atE, List.getD_eq_getElem?_getD, List.getElem?_eq_getElem hlt]
    rw [← he] at hcc
    simp [execOp, hop, hx, eltE, encA, run_loadAt_mid w b (off + i.toNat * (L.z + 2)) L.tE (enc L (atE es i)) L.td hcc L.ud L.row (by rw [lab_size, enc_len])]
theorem go_sliceE1 (L : Lab α) {t : TypeId} {x : Operand} {a b : Int} {l : α} (hd : o.dst = some d) (hN : Nat.blt d N = true) (hop : o.op = .buildSlice t 1 #[(0, x)]) (hx : evo e x = some (.agg (Value.int .i64 a :: Value.int .i64 b :: L.lc l).toArray)) (ht : t = L.tS)
    (hk : ∀ B : Nat, GK w0 (is ++ [ownEI L (.slice (some ⟨B, 0, none⟩) 1 1) [(a, b, l)]]) N K ((d, .slice (some ⟨B, 0, none⟩) 1 1) :: e)) : GO w0 is N o e Q K := by
  subst ht
  obtain ⟨en, hen⟩ : ∃ en : Ent α, en = (a, b, l) := ⟨_, rfl⟩
  have hx : evo e x = some (encA L en) := by rw [hen]; exact hx
  rw [← hen] at hk
  intro w ac M F
  have hO : OwnE L (.slice (some ⟨w.heap.size, 0, none⟩) 1 1) [en] (w.alloc (.cells (enc L en).toArray L.tE)) (fun k => w.heap.size ≤ k) := by
    refine ⟨⟨by simp [enc_len], .inr ⟨w.heap.size, 1, (enc L en).toArray, rfl, Nat.zero_le _, heap_alloc_new w _, Nat.le_refl _, by unfold maxLen; omega, by simp [enc_len], ?_⟩⟩, L.hc1, fun q hq => by simp [Value.ownBlock] at hq; omega⟩
    simp [enc_len]
    exact List.take_of_length_le (by simp [enc_len])
  refine go_val (v := .slice (some ⟨w.heap.size, 0, none⟩) 1 1) (w' := w.alloc (.cells (enc L en).toArray L.tE)) hd hN F ?_ fun ac F => hk _ _ ac (mem_new M (below_alloc w _) hO) F
  intro ρ F; have hx := F _ _ hx
  obtain ⟨i, hi, hz, hs, hb⟩ := info_parts L.inf
  have hcl : (encA L en).cells = (enc L en).toArray := rfl
  have hsz : (enc L en).toArray.size = L.z + 2 := by simp [enc_len]
  have h24 : ¬ 16777216 < L.z + 2 := by have := L.hz; omega
  have hcs : (encA L en).cells.size = L.z + 2 := by rw [hcl, hsz]
  have hfold := fold_set (enc L en) 0 (Array.map (fun x => L.zc.cells[x % L.zc.cells.size]!) (Array.range (L.z + 2))) (by simp [enc_len])
  simp [execOp, hop, hx, Instr.buildSlice, run_underlying L.ul, sizeOf, typeInfo, hi, hs, Instr.fill, newRow, zeroValue, hz, Sem.run_bind, range1, h24]
  rw [if_neg (by rw [hcs]; omega), hcl]
  simp
  rw [hfold]; simp
/-- 'append(s, x)': an entry behind a list of entries of the call's own. -/
theorem go_appendE (L : Lab α) {s x : Operand} {t : TypeId} {n m : Nat} {es : List (Ent α)} {u : Value} {en : Ent α} (hd : o.dst = some d) (hN : Nat.blt d N = true) (hop : o.op = .call { callee := .builtin .append, args := #[s, x], argTypes := #[t, t] }) (ht : t = L.tS)
    (hs : evo e s = some v) (hx : evo e x = some u) (hi : is[n]? = some (ownEI L v es)) (hj : is[m]? = some (ownEI L u [en])) (hn : es.length + 1 ≤ L.cap)
    (hk : ∀ a cap, GK w0 (is.set n (ownEI L (.slice a (es ++ [en]).length cap) (es ++ [en]))) N K ((d, .slice a (es ++ [en]).length cap) :: e)) : GO w0 is N o e Q K := by
  subst ht
  intro w ac M F
  obtain ⟨ad, cap, hu, _, hc⟩ := mem_ownE M hj
  obtain ⟨b, off, ha, _, hcell⟩ := hc (by simp)
  subst ha
  have hv : u = .slice (some ⟨b, off, none⟩) 1 cap := hu
  have h0 := hcell 0 (by simp)
  simp only [Nat.zero_mul, Nat.add_zero, List.getElem_cons_zero] at h0
  obtain ⟨S, hS, hp, hset⟩ := mem_set M hi
  have hp : OwnE L v es w S := hp
  obtain ⟨i, hi', hz, hs1, hb⟩ := info_parts L.inf
  have hc2 := L.hc2
  have hby : (es.length + 1) * L.bts ≤ 140737488355328 := Nat.le_trans (Nat.mul_le_mul_right _ hn) L.hcb
  obtain ⟨v', w', hr, hown, hgrow, _, hat⟩ := run_append_own_at (P := Try.prog) w 0 L.tS o.type L.tE i L.zc (L.z + 2) L.bts L.ul hi' hz hs1 hb L.zl (by omega) v es.length (es.flatMap (enc L)) hp.1 ⟨b, off, none⟩ 1 cap (enc L en) (by rw [enc_len]; omega) (fun j z hz => by rw [Addr.add_mid]; exact h0 j z hz) (fun z hz => List.all_eq_true.1 (enc_one L en) z hz) (by unfold maxLen; omega) hby (Nat.zero_le _)
  have hO : OwnE L v' (es ++ [en]) w' (fun k => S k ∨ w.heap.size ≤ k) := by
    refine ⟨by simpa using hown, by simpa using hn, fun q hq => ?_⟩
    rcases hat with hat | hat
    · exact .inl (hp.2.2 q (by rw [← hat]; exact hq))
    · rw [hat] at hq
      simp only [Option.some.injEq] at hq
      exact .inr (by omega)
  obtain ⟨va, vc, rfl⟩ := ownE_form hO
  refine go_val (v := .slice va (es ++ [en]).length vc) (w' := w') hd hN F ?_ fun ac F => hk va vc w' ac (hset w' (ownEI L (.slice va (es ++ [en]).length vc) (es ++ [en])) (frS_grown hgrow hp.2.2) hO) F
  intro ρ F; have hs := F _ _ hs; have hx := F _ _ hx
  simp only [execOp, hop, resolve, invoke, builtin, Sem.run_bind, Sem.run_pure, Result.andThen_ok, List.map_toArray, List.map_cons, List.map_nil, hs, hx, hv]
  rw [hr]
  rfl
theorem mem_nilE (L : Lab α) {w : World} (M : Mem w0 w is) : Mem w0 w (is ++ [ownEI L (.slice none 0 0) []]) :=
  mem_new M (Below.refl _ _) ⟨World.ownsRow_nil w 0 _ _, Nat.zero_le _, fun q hq => by simp [Value.ownBlock] at hq⟩
theorem gc_nilE (L : Lab α) {c : Code} (hk : GC w0 (is ++ [ownEI L (.slice none 0 0) []]) N c Q e) : GC w0 is N c Q e := fun w a M F => hk w a (mem_nilE L M) F
theorem g_nilE (L : Lab α) (hk : G w0 (is ++ [ownEI L (.slice none 0 0) []]) N ops Q rest e) : G w0 is N ops Q rest e := fun w a M F => hk w a (mem_nilE L M) F
theorem gk_nilE (L : Lab α) (hk : GK w0 (is ++ [ownEI L (.slice none 0 0) []]) N K e) : GK w0 is N K e := fun w a M F => hk w a (mem_nilE L M) F
end
/-! ### The map that numbers entries -/
def NumE (L : Lab α) : Nat → List MapEntry → List (Ent α) → Prop
  | _, [], [] => True
  | k, x :: xs, e :: es => x.key = encA L e ∧ x.val = .int .i64 k ∧ NumE L (k + 1) xs es
  | _, _, _ => False
theorem numE_snoc {L : Lab α} : ∀ {xs : List MapEntry} {es : List (Ent α)} {k : Nat} {x : MapEntry} {e : Ent α}, NumE L k xs es → x.key = encA L e → x.val = .int .i64 (k + es.length : Nat) → NumE L k (xs ++ [x]) (es ++ [e])
  | [], [], k, x, e, _, h1, h2 => ⟨h1, by simpa using h2, trivial⟩
  | y :: xs, f :: es, k, x, e, h, h1, h2 => ⟨h.1, h.2.1, numE_snoc h.2.2 h1 (by rw [h2]; congr 2; simp; omega)⟩
  | [], f :: es, _, _, _, h, _, _ => h.elim
  | y :: xs, [], _, _, _, h, _, _ => h.elim
/-- The number of an entry in a list of entries: 0 if it is not there. -/
noncomputable def posE [DecidableEq α] (es : List (Ent α)) (e : Ent α) : Int := if e ∈ es then (es.idxOf e : Int) else 0
def RdN (L : Lab α) (w : World) (B : Nat) (es : List (Ent α)) : Prop := ∃ xs clock, w.heap[B]? = some (.map xs clock) ∧ NumE L 0 xs.toList es
def NumM (L : Lab α) (B : Nat) (es : List (Ent α)) (w : World) (S : Nat → Prop) : Prop := RdN L w B es ∧ S B
theorem rdN_lt {L : Lab α} {w : World} {B : Nat} {es : List (Ent α)} (h : RdN L w B es) : B < w.heap.size := let ⟨_, _, hb, _⟩ := h; (Array.getElem?_eq_some_iff.1 hb).1
theorem rdN_below {L : Lab α} {w w' : World} {B : Nat} {es : List (Ent α)} (hb : Below w.heap.size w w') (h : RdN L w B es) : RdN L w' B es := by
  have hlt := rdN_lt h
  obtain ⟨xs, cl, h1, h2⟩ := h
  exact ⟨xs, cl, by rw [hb.block B hlt]; exact h1, h2⟩
theorem numM_loc (L : Lab α) (B : Nat) (es : List (Ent α)) : Loc (NumM L B es) where
  keep hs ha h := by
    obtain ⟨hR, hS⟩ := h
    have hlt := rdN_lt hR
    obtain ⟨xs, cl, hb, hp⟩ := hR
    exact ⟨⟨xs, cl, by rw [ha _ hlt hS]; exact hb, hp⟩, hs _ hlt hS⟩
def numI (L : Lab α) (B : Nat) (es : List (Ent α)) : Itm := ⟨_, numM_loc L B es⟩
theorem run_askE [DecidableEq α] (L : Lab α) (k : Ent α) (w : World) : ∀ (xs : List MapEntry) (es : List (Ent α)) (i n : Nat), NumE L n xs es →
    ∃ r, (Instr.findAsking L.tE (encA L k) xs i).run Try.prog w = .ok r w ∧ (k ∈ es → ∃ j, r = some (j, .int .i64 (n + es.idxOf k : Nat))) ∧ (k ∉ es → r = none)
  | [], [], i, n, _ => ⟨none, by simp [Instr.findAsking], fun h => by simp at h, fun _ => rfl⟩
  | [], e :: es, i, n, h => h.elim
  | x :: xs, [], i, n, h => h.elim
  | x :: xs, e :: es, i, n, h => by
    obtain ⟨hk, hv, h2⟩ := h
    obtain ⟨r, hr, hr2, hr3⟩ := run_askE L k w xs es (i + 1) (n + 1) h2
    have he : (Op.equal L.tE (encA L k) x.key).run Try.prog w = .ok (bP (k.1 = e.1 ∧ k.2.1 = e.2.1 ∧ k.2.2 = e.2.2)) w := by rw [hk]; exact L.eqk _ _ _ _ _ _ w
    have heq : (k.1 = e.1 ∧ k.2.1 = e.2.1 ∧ k.2.2 = e.2.2) ↔ k = e := ⟨fun ⟨a, b, c⟩ => Prod.ext a (Prod.ext b c), fun h => by subst h; exact ⟨rfl, rfl, rfl⟩⟩
    unfold Instr.findAsking
    by_cases hab : k = e
    · rw [bP_t (heq.2 hab)] at he
      subst hab
      refine ⟨some (i, .int .i64 n), by simp [Sem.run_bind, he, hv, Result.andThen], fun _ => ⟨i, by simp⟩, fun hn => absurd (List.mem_cons_self ..) hn⟩
    · rw [bP_f (fun h => hab (heq.1 h))] at he
      refine ⟨r, by simp [Sem.run_bind, he, hr, Result.andThen], fun hm => ?_, fun hn => hr3 fun h => hn (List.mem_cons_of_mem _ h)⟩
      rcases List.mem_cons.1 hm with h | h
      · exact absurd h hab
      · obtain ⟨j, hj⟩ := hr2 h
        have hidx : (e :: es).idxOf k = es.idxOf k + 1 := by
          rw [List.idxOf_cons, show (e == k) = false from by simpa using fun h => hab h.symm]; rfl
        exact ⟨j, by rw [hj, hidx, show n + 1 + es.idxOf k = n + (es.idxOf k + 1) from by omega]⟩
theorem run_findE [DecidableEq α] (L : Lab α) (k : Ent α) (w : World) {xs : List MapEntry} {es : List (Ent α)} (h : NumE L 0 xs es) :
    ∃ r, (Instr.findKey L.tE (encA L k) xs).run Try.prog w = .ok r w ∧ (k ∈ es → ∃ j, r = some (j, .int .i64 (es.idxOf k : Nat))) ∧ (k ∉ es → r = none) := by
  obtain ⟨r, hr, h1, h2⟩ := run_askE L k w xs es 0 0 h
  refine ⟨r, ?_, fun h => by simpa using h1 h, h2⟩
  cases xs with
  | nil =>
    cases es with
    | nil =>
      rw [h2 (by simp)]
      have hud := L.ud
      generalize L.td = td at hud
      simp [Instr.findKey, Sem.run_bind, run_underlying hud, Instr.findNow, Result.andThen]
    | cons e es => exact h.elim
  | cons x xs =>
    have hud := L.ud
    generalize L.td = td at hud
    have hs : Instr.sameNow td (encA L k) x.key = none := by
      unfold Instr.sameNow encA
      cases td <;> rfl
    simp [Instr.findKey, Sem.run_bind, run_underlying hud, Instr.findNow, hs, hr, Result.andThen]
section
variable {w0 : World} {is : List Itm} {ops : Array Oper} {Q : Exit → Act → World → Prop} {o : Oper} {rest : List Oper} {N : Frm} {e : Env} {v : Value} {d : Nat} {K : Act → World → Prop}
theorem go_makeNum (L : Lab α) {t : TypeId} (hd : o.dst = some d) (hN : Nat.blt d N = true) (hop : o.op = .makeMap t none)
    (hk : ∀ B : Nat, GK w0 (is ++ [numI L B []]) N K ((d, .map (some B)) :: e)) : GO w0 is N o e Q K := by
  intro w ac M F
  refine go_val (v := .map (some w.heap.size)) (w' := w.alloc (.map #[] 0)) hd hN F ?_ fun ac F => hk _ _ ac (mem_new M (below_alloc w _) ⟨⟨#[], 0, heap_alloc_new w _, trivial⟩, Nat.le_refl _⟩) F
  intro ρ F
  simp [execOp, hop, Instr.makeMap, Sem.run_bind, Result.andThen]
theorem qt_lookN [DecidableEq α] (L : Lab α) {x y : Operand} {t : TypeId} {B : Nat} {a b : Int} {l : α} {es : List (Ent α)} (hop : o.op = .lookup t x y false) (hx : evo e x = some (.map (some B))) (hy : evo e y = some (.agg (Value.int .i64 a :: Value.int .i64 b :: L.lc l).toArray))
    (ht : t = L.tM) (hr : ∀ w, Mem w0 w is → RdN L w B es) : QV w0 is o e (.int .i64 (posE es (a, b, l))) :=
  fun w ac M F => by
    subst ht
    obtain ⟨k, hk⟩ : ∃ k : Ent α, k = (a, b, l) := ⟨_, rfl⟩
    have hy : evo e y = some (encA L k) := by rw [hk]; exact hy
    rw [← hk]
    have hx := F _ _ hx; have hy := F _ _ hy
    obtain ⟨xs, cl, hb, hp⟩ := hr w M
    obtain ⟨r, hr, h1, h2⟩ := run_findE L k w hp
    obtain ⟨i, hi', hz, hs, hbb⟩ := info_parts info64
    have hck : (Instr.checkKey xs.isEmpty 10000 L.tE (encA L k)).run Try.prog w = .ok () w := L.chk _ _ _ _ w
    by_cases hm : k ∈ es
    · obtain ⟨j, rfl⟩ := h1 hm
      simp [execOp, hop, hx, hy, Instr.lookup, run_underlying L.um, MapKept.run_getObj_map hb, hck, hr, hm, posE, Sem.run_bind, Result.andThen]
    · obtain rfl := h2 hm
      simp [execOp, hop, hx, hy, Instr.lookup, run_underlying L.um, MapKept.run_getObj_map hb, hck, hr, hm, posE, Sem.run_bind, Result.andThen, zeroValue, typeInfo, hi', hz]
theorem mem_rdN {L : Lab α} {w : World} {B : Nat} {es : List (Ent α)} (M : Mem w0 w is) (h : RdN L w0 B es) : RdN L w B es := rdN_below M.1 h
theorem mem_numN {L : Lab α} {w : World} {n B : Nat} {es : List (Ent α)} (M : Mem w0 w is) (h : is[n]? = some (numI L B es)) : RdN L w B es := by
  obtain ⟨S, _, hb⟩ := mem_get M h
  exact (hb : NumM L B es w S).1
/-- An entry that the map doesn't hold is numbered. -/
theorem go_putN [DecidableEq α] (L : Lab α) {x y z : Operand} {t : TypeId} {B n : Nat} {a b : Int} {l : α} {es : List (Ent α)} {q : Int} (hd : o.dst = none) (hop : o.op = .mapUpdate t x y z) (hx : evo e x = some (.map (some B))) (hy : evo e y = some (.agg (Value.int .i64 a :: Value.int .i64 b :: L.lc l).toArray)) (hz : evo e z = some (.int .i64 q))
    (ht : t = L.tM) (hi : is[n]? = some (numI L B es)) (hm : (a, b, l) ∉ es) (hq : q = es.length)
    (hk : GK w0 (is.set n (numI L B (es ++ [(a, b, l)]))) N K e) : GO w0 is N o e Q K := by
  subst ht; subst hq
  obtain ⟨k, hke⟩ : ∃ k : Ent α, k = (a, b, l) := ⟨_, rfl⟩
  have hy : evo e y = some (encA L k) := by rw [hke]; exact hy
  rw [← hke] at hm hk
  intro w ac M F
  obtain ⟨S, hS, hp, hset⟩ := mem_set M hi
  obtain ⟨⟨xs, cl, hb, hp⟩, hSB⟩ := (hp : NumM L B es w S)
  obtain ⟨r, hr, h1, h2⟩ := run_findE L k w hp
  obtain rfl := h2 hm
  have hlt := (Array.getElem?_eq_some_iff.1 hb).1
  have hck : (Instr.checkKey false 10000 L.tE (encA L k)).run Try.prog w = .ok () w := L.chk _ _ _ _ w
  refine go_skip (w' := { w with heap := w.heap.setIfInBounds B (.map (xs.push { key := encA L k, val := .int .i64 es.length, born := cl }) (cl + 1)) }) hd F ?_ fun ac F => hk _ ac (hset _ _ ⟨rfl, rfl, rfl, by simp, fun q hq hs => ?_⟩ ⟨⟨xs.push { key := encA L k, val := .int .i64 es.length, born := cl }, cl + 1, by simp [hlt], ?_⟩, .inl hSB⟩) F
  · intro ρ F; have hx := F _ _ hx; have hy := F _ _ hy; have hz := F _ _ hz
    simp [execOp, hop, hx, hy, hz, Instr.mapUpdate, run_underlying L.um, MapKept.run_getObj_map hb, hck, hr, Sem.run_bind, Result.andThen, MapKept.run_setObj_map _ hb]
  · have : B ≠ q := fun e => hs (by rw [← e]; exact hSB)
    simp [this]
  · rw [Array.toList_push]; exact numE_snoc hp rfl (by simp)
end
end Go.Proofs.Ytgkfampgofjkfaa
