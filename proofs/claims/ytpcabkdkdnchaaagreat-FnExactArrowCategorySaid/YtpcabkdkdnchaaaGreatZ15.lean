import Derived.Test.YtpcabkdkdnchaaaGreatZ10
import Derived.Deep.MidRow
import Derived.RangeFuncNested
import Derived.Test.YtpcabkdkdnchaaaGreatZ11
set_option linter.unusedSimpArgs false
set_option linter.unusedVariables false
set_option linter.unusedSectionVars false
namespace Go.Proofs.YtpcabkdkdnchaaaGreat
open Go.RowKit
structure Lab0 (α : Type) where
  z : Nat
  lc : α → List Value
  tE : TypeId
  tS : TypeId
  bts : Nat
  zc : Value
  td : TypeDesc
  len : ∀ l, (lc l).length = z
  one : ∀ l, (lc l).all (·.oneCell') = true
  inf : (Tryz.prog.info? tE).map (fun i => (i.zero, i.size, i.bytes)) = some (some zc, z + 2, bts)
  zl : zc.cells.size = z + 2
  cap : Nat
  hc1 : 1 ≤ cap
  hc2 : cap ≤ 17592186044415
  hcb : cap * bts ≤ 140737488355328
  hz : z ≤ 64
  ud : Tryz.prog.underlying tE = some td
  row : td.isRow = true
  ul : Tryz.prog.underlying tS = some (.slice tE)
  el : Tryz.prog.elem tS = tE
variable {α : Type}
def enc0 (L : Lab0 α) (e : Ent α) : List Value := Value.int .i64 e.1 :: Value.int .i64 e.2.1 :: L.lc e.2.2
def encA0 (L : Lab0 α) (e : Ent α) : Value := .agg (enc0 L e).toArray
theorem enc_len0 (L : Lab0 α) (e : Ent α) : (enc0 L e).length = L.z + 2 := by simp [enc0, L.len]
theorem enc_one0 (L : Lab0 α) (e : Ent α) : (enc0 L e).all (·.oneCell') = true := by
  have := L.one e.2.2
  simp only [enc0, List.all_cons, this]; rfl
theorem lab_size0 (L : Lab0 α) : (Tryz.prog.info? L.tE).map (·.size) = some (L.z + 2) := by
  obtain ⟨i, hi, _, hs, _⟩ := info_parts L.inf
  simp [hi, hs]
theorem lab_ul0 (L : Lab0 α) : Tryz.prog.underlying L.tS = some (.slice (Tryz.prog.elem L.tS)) := by rw [L.el]; exact L.ul
theorem flat_at0 (L : Lab0 α) : ∀ (es : List (Ent α)) {j : Nat} (hj : j < es.length) {c : Nat}, c < L.z + 2 → (es.flatMap (enc0 L))[j * (L.z + 2) + c]? = (enc0 L es[j])[c]?
  | [], j, hj, _, _ => by simp at hj
  | e :: es, 0, _, c, hc => by rw [List.flatMap_cons, List.getElem?_append_left (by rw [enc_len0]; omega)]; simp
  | e :: es, j + 1, hj, c, hc => by
    rw [List.flatMap_cons, List.getElem?_append_right (by rw [enc_len0, Nat.succ_mul]; omega), enc_len0, show (j + 1) * (L.z + 2) + c - (L.z + 2) = j * (L.z + 2) + c from by rw [Nat.succ_mul]; omega]
    simpa using flat_at0 L es (j := j) (by simpa using hj) hc
def OwnE0 (L : Lab0 α) (v : Value) (es : List (Ent α)) (w : World) (S : Nat → Prop) : Prop := w.ownsRow 0 L.tE (L.z + 2) v es.length (es.flatMap (enc0 L)) ∧ es.length ≤ L.cap ∧ ∀ q, v.ownBlock = some q → S q
theorem ownE_loc0 (L : Lab0 α) (v : Value) (es : List (Ent α)) : Loc (OwnE0 L v es) where
  keep hs ha h := ⟨own_agree h.1 fun q hq e => ha q hq (h.2.2 q e), h.2.1, fun q hq => hs q (h.1.lt q hq).2 (h.2.2 q hq)⟩
def ownEI0 (L : Lab0 α) (v : Value) (es : List (Ent α)) : Itm := ⟨_, ownE_loc0 L v es⟩
def RdE0 (L : Lab0 α) (w : World) (v : Value) (es : List (Ent α)) : Prop :=
  ∃ (a : Option Addr) (cap : Nat), v = .slice a es.length cap ∧ es.length ≤ L.cap ∧
    (0 < es.length → ∃ b off, a = some ⟨b, off, none⟩ ∧ b < w.heap.size ∧ ∀ j (hj : j < es.length), w.rangeAt b (off + j * (L.z + 2)) (enc0 L es[j]))
theorem rdE_below0 {L : Lab0 α} {w w' : World} {v : Value} {es : List (Ent α)} (hb : Below w.heap.size w w') (h : RdE0 L w v es) : RdE0 L w' v es := by
  obtain ⟨a, cap, hv, hl, hc⟩ := h
  refine ⟨a, cap, hv, hl, fun h0 => ?_⟩
  obtain ⟨b, off, ha, hbs, hcell⟩ := hc h0
  exact ⟨b, off, ha, Nat.lt_of_lt_of_le hbs hb.size, fun j hj i u hu => (hb.cell (p := ⟨b, _, none⟩) hbs).trans (hcell j hj i u hu)⟩
theorem OwnE0.rd {L : Lab0 α} {w : World} {S : Nat → Prop} {v : Value} {es : List (Ent α)} (h : OwnE0 L v es w S) : RdE0 L w v es := by
  obtain ⟨h1, h2, h3⟩ := h
  rcases h1.2 with ⟨hv, hn⟩ | ⟨g, cap, cur, hv, _, hg, _⟩
  · exact ⟨none, 0, by rw [hv, hn], h2, fun h => by omega⟩
  · refine ⟨some ⟨g, 0, none⟩, cap, hv, h2, fun _ => ⟨g, 0, rfl, (Array.getElem?_eq_some_iff.1 hg).1, fun j hj c u hu => ?_⟩⟩
    have hc : c < L.z + 2 := by
      have := (List.getElem?_eq_some_iff.1 hu).1
      rwa [enc_len0] at this
    have hf := flat_at0 L es hj hc
    rw [hu] at hf
    have hlt := (List.getElem?_eq_some_iff.1 hf).1
    rw [Nat.zero_add]
    subst hv
    have := h1.cells (g := g) rfl (j * (L.z + 2) + c) u hf
    rw [Addr.add_mid, Nat.zero_add] at this
    exact this
theorem ownE_form0 {L : Lab0 α} {w : World} {S : Nat → Prop} {v : Value} {es : List (Ent α)} (h : OwnE0 L v es w S) : ∃ a cap, v = .slice a es.length cap := let ⟨a, cap, hv, _⟩ := h.rd; ⟨a, cap, hv⟩
@[irreducible] def atE0 [Inhabited α] (es : List (Ent α)) (i : Int) : Ent α := es.getD i.toNat default
def eltE0 (z : Nat) (v : Value) (i : Int) : Value := match v with | .slice (some a) _ _ => .pointer (some ⟨a.block, a.off + i.toNat * z, none⟩) | _ => .pointer none
section
variable {w0 : World} {is : List Itm} {ops : Array Oper} {Q : Exit → Act → World → Prop} {o : Oper} {rest : List Oper} {N : Frm} {e : Env} {v : Value} {d : Nat} {K : Act → World → Prop}
theorem mem_rdE0 {L : Lab0 α} {w : World} {es : List (Ent α)} (M : Mem w0 w is) (h : RdE0 L w0 v es) : RdE0 L w v es := rdE_below0 M.1 h
theorem mem_ownE0 {L : Lab0 α} {w : World} {n : Nat} {es : List (Ent α)} (M : Mem w0 w is) (h : is[n]? = some (ownEI0 L v es)) : RdE0 L w v es := by
  obtain ⟨S, _, hb⟩ := mem_get M h
  exact OwnE0.rd (S := S) hb
theorem lenV_E0 {L : Lab0 α} {w : World} {es : List (Ent α)} (h : RdE0 L w v es) : LenV v es.length := let ⟨a, cap, hv, _⟩ := h; ⟨a, cap, hv⟩
theorem lenA_E0 {L : Lab0 α} {w : World} {es : List (Ent α)} (h : RdE0 L w v es) : LenA v es.length := let ⟨a, cap, hv, _, hc⟩ := h; ⟨a, cap, hv, fun h0 => let ⟨b, off, ha, _⟩ := hc h0; ⟨b, off, ha⟩⟩
theorem qt_indexE0 (L : Lab0 α) {x y : Operand} {t : TypeId} {n : Nat} {i : Int} (hop : o.op = .indexAddr t x y) (hx : evo e x = some (v)) (hy : evo e y = some (.int .i64 i)) (ht : t = L.tS)
    (hl : ∀ w, Mem w0 w is → LenA v n) (h0 : 0 ≤ i) (h1 : i < (n : Int)) : QV w0 is o e (eltE0 (L.z + 2) v i) :=
  fun w ac M F => by
    subst ht
    have hx := F _ _ hx; have hy := F _ _ hy
    obtain ⟨a, cap, rfl, ha⟩ := hl w M
    obtain ⟨b, off, rfl⟩ := ha (by omega)
    have hI := info_parts L.inf
    obtain ⟨ii, hi, hz, hs, hb⟩ := hI
    simp only [execOp, hop, hx, hy, run_indexAt_slice _ _ _ _ _ _ _ (lab_ul0 L), L.el, h0, h1, and_self, if_true, sizeOf, typeInfo, hi, hs, eltE0, Sem.run_bind, Sem.run_pure, Result.andThen_ok, run_program, Addr.add_mid]
theorem qt_loadE0 [Inhabited α] (L : Lab0 α) {x : Operand} {t : TypeId} {u : Value} {es : List (Ent α)} {i : Int} (hop : o.op = .load t x) (hx : evo e x = some (eltE0 (L.z + 2) u i)) (ht : t = L.tE)
    (hr : ∀ w, Mem w0 w is → RdE0 L w u es) (h0 : 0 ≤ i) (h1 : i < es.length) : QV w0 is o e (encA0 L (atE0 es i)) :=
  fun w ac M F => by
    subst ht
    have hx := F _ _ hx
    obtain ⟨a, cap, rfl, _, hc⟩ := hr w M
    obtain ⟨b, off, rfl, _, hcell⟩ := hc (by omega)
    have hlt : i.toNat < es.length := by omega
    have hcc := hcell i.toNat hlt
    have he : atE0 es i = es[i.toNat] := by simp [atE0, List.getD_eq_getElem?_getD, List.getElem?_eq_getElem hlt]
    rw [← he] at hcc
    simp [execOp, hop, hx, eltE0, encA0, run_loadAt_mid w b (off + i.toNat * (L.z + 2)) L.tE (enc0 L (atE0 es i)) L.td hcc L.ud L.row (by rw [lab_size0, enc_len0])]
theorem go_sliceE10 (L : Lab0 α) {t : TypeId} {x : Operand} {a b : Int} {l : α} (hd : o.dst = some d) (hN : Nat.blt d N = true) (hop : o.op = .buildSlice t 1 #[(0, x)]) (hx : evo e x = some (.agg (Value.int .i64 a :: Value.int .i64 b :: L.lc l).toArray)) (ht : t = L.tS)
    (hk : ∀ B : Nat, GK w0 (is ++ [ownEI0 L (.slice (some ⟨B, 0, none⟩) 1 1) [(a, b, l)]]) N K ((d, .slice (some ⟨B, 0, none⟩) 1 1) :: e)) : GO w0 is N o e Q K := by
  subst ht
  obtain ⟨en, hen⟩ : ∃ en : Ent α, en = (a, b, l) := ⟨_, rfl⟩
  have hx : evo e x = some (encA0 L en) := by rw [hen]; exact hx
  rw [← hen] at hk
  intro w ac M F
  have hO : OwnE0 L (.slice (some ⟨w.heap.size, 0, none⟩) 1 1) [en] (w.alloc (.cells (enc0 L en).toArray L.tE)) (fun k => w.heap.size ≤ k) := by
    refine ⟨⟨by simp [enc_len0], .inr ⟨w.heap.size, 1, (enc0 L en).toArray, rfl, Nat.zero_le _, heap_alloc_new w _, Nat.le_refl _, by unfold maxLen; omega, by simp [enc_len0], ?_⟩⟩, L.hc1, fun q hq => by simp [Value.ownBlock] at hq; omega⟩
    simp [enc_len0]
    exact List.take_of_length_le (by simp [enc_len0])
  refine go_val (v := .slice (some ⟨w.heap.size, 0, none⟩) 1 1) (w' := w.alloc (.cells (enc0 L en).toArray L.tE)) hd hN F ?_ fun ac F => hk _ _ ac (mem_new M (below_alloc w _) hO) F
  intro ρ F; have hx := F _ _ hx
  obtain ⟨i, hi, hz, hs, hb⟩ := info_parts L.inf
  have hcl : (encA0 L en).cells = (enc0 L en).toArray := rfl
  have hsz : (enc0 L en).toArray.size = L.z + 2 := by simp [enc_len0]
  have h24 : ¬ 16777216 < L.z + 2 := by have := L.hz; omega
  have hcs : (encA0 L en).cells.size = L.z + 2 := by rw [hcl, hsz]
  have hfold := fold_set (enc0 L en) 0 (Array.map (fun x => L.zc.cells[x % L.zc.cells.size]!) (Array.range (L.z + 2))) (by simp [enc_len0])
  simp [execOp, hop, hx, Instr.buildSlice, run_underlying L.ul, sizeOf, typeInfo, hi, hs, Instr.fill, newRow, zeroValue, hz, Sem.run_bind, range1, h24]
  rw [if_neg (by rw [hcs]; omega), hcl]
  simp
  rw [hfold]; simp
theorem go_appendE0 (L : Lab0 α) {s x : Operand} {t : TypeId} {n m : Nat} {es : List (Ent α)} {u : Value} {en : Ent α} (hd : o.dst = some d) (hN : Nat.blt d N = true) (hop : o.op = .call { callee := .builtin .append, args := #[s, x], argTypes := #[t, t] }) (ht : t = L.tS)
    (hs : evo e s = some v) (hx : evo e x = some u) (hi : is[n]? = some (ownEI0 L v es)) (hj : is[m]? = some (ownEI0 L u [en])) (hn : es.length + 1 ≤ L.cap)
    (hk : ∀ a cap, GK w0 (is.set n (ownEI0 L (.slice a (es ++ [en]).length cap) (es ++ [en]))) N K ((d, .slice a (es ++ [en]).length cap) :: e)) : GO w0 is N o e Q K := by
  subst ht
  intro w ac M F
  obtain ⟨ad, cap, hu, _, hc⟩ := mem_ownE0 M hj
  obtain ⟨b, off, ha, _, hcell⟩ := hc (by simp)
  subst ha
  have hv : u = .slice (some ⟨b, off, none⟩) 1 cap := hu
  have h0 := hcell 0 (by simp)
  simp only [Nat.zero_mul, Nat.add_zero, List.getElem_cons_zero] at h0
  obtain ⟨S, hS, hp, hset⟩ := mem_set M hi
  have hp : OwnE0 L v es w S := hp
  obtain ⟨i, hi', hz, hs1, hb⟩ := info_parts L.inf
  have hc2 := L.hc2
  have hby : (es.length + 1) * L.bts ≤ 140737488355328 := Nat.le_trans (Nat.mul_le_mul_right _ hn) L.hcb
  obtain ⟨v', w', hr, hown, hgrow, _, hat⟩ := run_append_own_at (P := Tryz.prog) w 0 L.tS o.type L.tE i L.zc (L.z + 2) L.bts L.ul hi' hz hs1 hb L.zl (by omega) v es.length (es.flatMap (enc0 L)) hp.1 ⟨b, off, none⟩ 1 cap (enc0 L en) (by rw [enc_len0]; omega) (fun j z hz => by rw [Addr.add_mid]; exact h0 j z hz) (fun z hz => List.all_eq_true.1 (enc_one0 L en) z hz) (by unfold maxLen; omega) hby (Nat.zero_le _)
  have hO : OwnE0 L v' (es ++ [en]) w' (fun k => S k ∨ w.heap.size ≤ k) := by
    refine ⟨by simpa using hown, by simpa using hn, fun q hq => ?_⟩
    rcases hat with hat | hat
    · exact .inl (hp.2.2 q (by rw [← hat]; exact hq))
    · rw [hat] at hq
      simp only [Option.some.injEq] at hq
      exact .inr (by omega)
  obtain ⟨va, vc, rfl⟩ := ownE_form0 hO
  refine go_val (v := .slice va (es ++ [en]).length vc) (w' := w') hd hN F ?_ fun ac F => hk va vc w' ac (hset w' (ownEI0 L (.slice va (es ++ [en]).length vc) (es ++ [en])) (frS_grown hgrow hp.2.2) hO) F
  intro ρ F; have hs := F _ _ hs; have hx := F _ _ hx
  simp only [execOp, hop, resolve, invoke, builtin, Sem.run_bind, Sem.run_pure, Result.andThen_ok, List.map_toArray, List.map_cons, List.map_nil, hs, hx, hv]
  rw [hr]
  rfl
theorem mem_nilE0 (L : Lab0 α) {w : World} (M : Mem w0 w is) : Mem w0 w (is ++ [ownEI0 L (.slice none 0 0) []]) :=
  mem_new M (Below.refl _ _) ⟨World.ownsRow_nil w 0 _ _, Nat.zero_le _, fun q hq => by simp [Value.ownBlock] at hq⟩
theorem gc_nilE0 (L : Lab0 α) {c : Code} (hk : GC w0 (is ++ [ownEI0 L (.slice none 0 0) []]) N c Q e) : GC w0 is N c Q e := fun w a M F => hk w a (mem_nilE0 L M) F
end
end Go.Proofs.YtpcabkdkdnchaaaGreat
set_option linter.unusedSimpArgs false
set_option linter.unusedVariables false
set_option linter.unusedSectionVars false
namespace Go.Proofs.YtpcabkdkdnchaaaGreat
open Go.RowKit
theorem tail_loc (js : List Itm) : Loc (fun w S => Star js w S) where
  keep hs ha h := star_keep js hs ha h
def tailI (js : List Itm) : Itm := ⟨_, tail_loc js⟩
theorem star_tail_in : ∀ (L : List Itm) {F : List Itm} {w : World} {S : Nat → Prop}, Star (L ++ F) w S → Star (L ++ [tailI F]) w S
  | [], F, w, S, h => ⟨S, fun _ => False, fun _ h => h, fun _ h => h.elim, fun _ _ h => h, h, trivial⟩
  | _ :: L, F, w, S, ⟨S1, S2, k1, k2, kd, h1, h2⟩ => ⟨S1, S2, k1, k2, kd, h1, star_tail_in L h2⟩
theorem star_tail_out : ∀ (L : List Itm) {F : List Itm} {w : World} {S : Nat → Prop}, Star (L ++ [tailI F]) w S → Star (L ++ F) w S
  | [], F, w, S, ⟨S1, _, k1, _, _, h1, _⟩ => star_keep F (fun k _ h => k1 k h) agree_refl h1
  | _ :: L, F, w, S, ⟨S1, S2, k1, k2, kd, h1, h2⟩ => ⟨S1, S2, k1, k2, kd, h1, star_tail_out L h2⟩
theorem star_perm {is js : List Itm} (h : is.Perm js) : ∀ {w : World} {S : Nat → Prop}, Star is w S → Star js w S := by
  induction h with
  | nil => exact fun h => h
  | cons x _ ih => rintro w S ⟨S1, S2, k1, k2, hd, h1, h2⟩; exact ⟨S1, S2, k1, k2, hd, h1, ih h2⟩
  | swap x y l =>
    rintro w S ⟨S1, S2, k1, k2, hd, h1, T1, T2, t1, t2, td, h2, h3⟩
    exact ⟨T1, fun k => S1 k ∨ T2 k, fun k h => k2 k (t1 k h), fun k h => h.elim (k1 k) (fun h => k2 k (t2 k h)), fun k a b => b.elim (fun b => hd k b (t1 k a)) (td k a), h2, S1, T2, fun k h => .inl h, fun k h => .inr h, fun k a b => hd k a (t2 k b), h1, h3⟩
  | trans _ _ ih1 ih2 => exact fun h => ih2 (ih1 h)
theorem mem_perm {w0 w : World} {is js : List Itm} (h : is.Perm js) (M : Mem w0 w is) : Mem w0 w js := ⟨M.1, star_perm h M.2⟩
theorem mem_tail_in {w0 w : World} {L F : List Itm} (M : Mem w0 w (L ++ F)) : Mem w0 w (L ++ [tailI F]) := ⟨M.1, star_tail_in L M.2⟩
theorem mem_tail_out {w0 w : World} {L F : List Itm} (M : Mem w0 w (L ++ [tailI F])) : Mem w0 w (L ++ F) := ⟨M.1, star_tail_out L M.2⟩
section
variable {w0 : World} {is : List Itm} {ops : Array Oper} {Q : Exit → Act → World → Prop} {o : Oper} {N : Frm} {e : Env} {v : Value} {d : Nat} {K : Act → World → Prop} {f : FuncId} {fn : Func} {ags : Array Operand} {ts : Array TypeId} {vs : List Value}
end
end Go.Proofs.YtpcabkdkdnchaaaGreat
set_option linter.unusedSimpArgs false
set_option linter.unusedVariables false
set_option linter.unusedSectionVars false
namespace Go.Proofs.YtpcabkdkdnchaaaGreat
open Go.RowKit
theorem dfs_loc (Ds : List Nat) : Loc (fun w S => (∀ D ∈ Ds, w.heap[D]? = some (.deferred (some [])) ∧ S D) ∧ Ds.Nodup) where
  keep hs ha h := ⟨fun D hD => by
    obtain ⟨h1, h2⟩ := h.1 D hD
    have hl := (Array.getElem?_eq_some_iff.1 h1).1
    exact ⟨(ha D hl h2).trans h1, hs D hl h2⟩, h.2⟩
def dfsI (Ds : List Nat) : Itm := ⟨_, dfs_loc Ds⟩
theorem rec_loc (l : Nat) (r : Loop) : Loc (fun w S => w.heap[l]? = some (.loop r) ∧ S l) where
  keep hs ha h := by
    have hl := (Array.getElem?_eq_some_iff.1 h.1).1
    exact ⟨(ha l hl h.2).trans h.1, hs l hl h.2⟩
def recI (l : Nat) (r : Loop) : Itm := ⟨_, rec_loc l r⟩
theorem cons_loc {σ : Type} (L : σ → List Itm) (inv : σ → Prop) : Loc (fun w S => ∃ s, inv s ∧ Star (L s) w S) where
  keep hs ha h := by obtain ⟨s, hi, h⟩ := h; exact ⟨s, hi, star_keep _ hs ha h⟩
def consI {σ : Type} (L : σ → List Itm) (inv : σ → Prop) : Itm := ⟨_, cons_loc L inv⟩
def nilI : Itm := ⟨fun _ _ => True, ⟨fun _ _ _ => trivial⟩⟩
section
variable {w0 : World} {is : List Itm} {Q : Exit → Act → World → Prop} {N : Frm} {e : Env}
theorem frS_putObj {S : Nat → Prop} {w : World} {l : Nat} {o : Obj} (h : S l) : FrS S w (w.putObj l o) := ⟨rfl, rfl, rfl, by simp, fun k _ hr => World.putObj_heap_other (fun e => hr (e ▸ h))⟩
theorem mem_rec {w : World} {n l : Nat} {r : Loop} (r' : Loop) (M : Mem w0 w is) (h : is[n]? = some (recI l r)) : w.heap[l]? = some (.loop r) ∧ Mem w0 (w.putObj l (.loop r')) (is.set n (recI l r')) := by
  obtain ⟨S, hS, hp, hset⟩ := mem_set M h
  have hl := (Array.getElem?_eq_some_iff.1 hp.1).1
  exact ⟨hp.1, hset _ _ (frS_putObj hp.2) ⟨World.putObj_heap_same hl, .inl hp.2⟩⟩
theorem below_allocO (w : World) (o : Obj) : Below w.heap.size w (w.alloc o) := (Below.refl _ w).alloc (Nat.le_refl _) _
theorem mem_rec_new {w : World} (r : Loop) (M : Mem w0 w is) : Mem w0 (w.alloc (.loop r)) (is ++ [recI w.heap.size r]) :=
  mem_new M (below_allocO w _) ⟨World.alloc_heap_new w _, Nat.le_refl _⟩
theorem mem_dfs_new {w : World} {n : Nat} {Ds : List Nat} (M : Mem w0 w is) (h : is[n]? = some (dfsI Ds)) : Mem w0 (w.alloc (.deferred (some []))) (is.set n (dfsI (w.heap.size :: Ds))) := by
  obtain ⟨S, hS, hp, hset⟩ := mem_set M h
  refine hset _ _ ⟨rfl, rfl, rfl, by simp, fun k hk _ => Below.heap_alloc w _ k hk⟩ ⟨fun D hD => ?_, ?_⟩
  · rcases List.mem_cons.1 hD with rfl | hD
    · exact ⟨World.alloc_heap_new w _, .inr (Nat.le_refl _)⟩
    · obtain ⟨h1, h2⟩ := hp.1 D hD
      exact ⟨(Below.heap_alloc w _ D (Array.getElem?_eq_some_iff.1 h1).1).trans h1, .inl h2⟩
  · refine List.nodup_cons.2 ⟨fun hD => ?_, hp.2⟩
    have := (Array.getElem?_eq_some_iff.1 (hp.1 _ hD).1).1
    omega
theorem star_split : ∀ (is js : List Itm) {w : World} {S : Nat → Prop}, Star (is ++ js) w S → ∃ S1 S2 : Nat → Prop, (∀ k, S1 k → S k) ∧ (∀ k, S2 k → S k) ∧ (∀ k, S1 k → ¬ S2 k) ∧ Star is w S1 ∧ Star js w S2
  | [], js, w, S, h => ⟨fun _ => False, S, fun _ h => h.elim, fun _ h => h, fun _ h => h.elim, trivial, h⟩
  | i :: is, js, w, S, ⟨S1, S2, k1, k2, kd, h1, h2⟩ => by
    obtain ⟨T1, T2, t1, t2, td, h3, h4⟩ := star_split is js h2
    exact ⟨fun k => S1 k ∨ T1 k, T2, fun k h => h.elim (k1 k) (fun h => k2 k (t1 k h)), fun k h => k2 k (t2 k h), fun k a b => a.elim (fun a => kd k a (t2 k b)) (fun a => td k a b), ⟨S1, T1, fun k h => .inl h, fun k h => .inr h, fun k a b => kd k a (t1 k b), h1, h3⟩, h4⟩
theorem mem_cons_out {σ : Type} {L : σ → List Itm} {inv : σ → Prop} {js : List Itm} {w : World} (M : Mem w0 w (consI L inv :: js)) : ∃ s, inv s ∧ Mem w0 w (L s ++ js) := by
  obtain ⟨hb, S1, S2, k1, k2, kd, ⟨s, hi, h1⟩, h2⟩ := M
  exact ⟨s, hi, hb, star_app _ _ k1 k2 kd h1 h2⟩
theorem mem_cons_in {σ : Type} {L : σ → List Itm} {inv : σ → Prop} {js : List Itm} {w : World} (s : σ) (hi : inv s) (M : Mem w0 w (L s ++ js)) : Mem w0 w (consI L inv :: js) := by
  obtain ⟨S1, S2, k1, k2, kd, h1, h2⟩ := star_split _ _ M.2
  exact ⟨M.1, S1, S2, k1, k2, kd, ⟨s, hi, h1⟩, h2⟩
def YieldC {α β : Type} (w0 : World) (C Cx : List α → Itm) (l : Nat) (val : α → Value) (T : α → List Itm) (dec : α → β) (L : List β) : Prop :=
  ∀ (W : World) (js : List Itm) (pre : List α) (x : α), ((pre ++ [x]).map dec) <+: L → Mem w0 W (C pre :: (T x ++ js)) → YieldAt Fence.wide 0 Tryz.prog l #[val x] W fun e W' =>
    (e = .returned (.bool true) ∧ Mem w0 W' (C (pre ++ [x]) :: js)) ∨ (e = .returned (.bool false) ∧ Mem w0 W' (Cx (pre ++ [x]) :: js))
def SeqC {α β : Type} (w0 : World) (B : List Itm) (gf : Nat) (lb : List Value) (val : α → Value) (T : α → List Itm) (dec : α → β) (L : List β) : Prop :=
  ∀ (C Cx : List α → Itm) (l : Nat), YieldC w0 C Cx l val T dec L → ∀ W, Mem w0 W (C [] :: B) → Calls Tryz.prog gf (.func (.yield l) #[] #[] :: lb).toArray W fun e W' =>
    (∃ v, e = .returned v) ∧ ((∃ xs, xs.map dec = L ∧ Mem w0 W' (C xs :: B)) ∨ (∃ pre, (pre.map dec) <+: L ∧ Mem w0 W' (Cx pre :: B)))
def jumpC : Code → Prop
  | .ret => True
  | .exit _ => True
  | _ => False
theorem run_invokeF {gf : Nat} {fn : Func} (hfn : Tryz.prog.funcs[gf]? = some fn) (hb : fn.body.isNone = false) (hn : (fn.name == "runtime.NumGoroutine") = false) (args : Array Value) (w : World) : (callFunc gf args).run Tryz.prog w = .ok (.enter gf args) w := by
  have hb' : ¬ fn.body = none := fun h => by rw [h] at hb; simp at hb
  have hn' : ¬ fn.name = "runtime.NumGoroutine" := by simpa using hn
  simp [callFunc, hfn, hn', hb']
theorem fit_round {a : Act} {p l : Nat} {v : Value} (F : Fit N e a) (hp : Nat.blt p N = true) : Fit ⟨N.n, [], some l⟩ ((p, v) :: e) { tmps := a.tmps.setIfInBounds p v, defers := [] } := by
  have h0 : Fit ⟨N.n, [], some l⟩ e { tmps := a.tmps, defers := [] } := ⟨F.size, rfl, F.at_⟩
  have := fit_put (v := v) h0 hp
  exact ⟨this.size, rfl, this.at_⟩
section
variable {α β σ : Type} {g : Operand} {p gf : Nat} {assign body : Code} {fn : Func} {lb : List Value} {val : α → Value} {T : α → List Itm} {dec : α → β} {L : List β} {A B : List Itm}
  {ti : σ → List (Nat × Itm)} {inv : List α → σ → Prop} {invX : Code → List α → σ → Prop}
def RoundC (w0 : World) (n : Nat) (assign body : Code) (p : Nat) (e : Env) (val : α → Value) (T : α → List Itm) (dec : α → β) (L : List β) (A : List Itm) (ti : σ → List (Nat × Itm)) (inv : List α → σ → Prop) (invX : Code → List α → σ → Prop) : Prop :=
  ∀ (l : Nat) (r : Loop) (js : List Itm) (pre : List α) (x : α) (s : σ), inv pre s → ((pre ++ [x]).map dec) <+: L → ∀ (Ka : Act → World → Prop) (Qb : Exit → Act → World → Prop),
    (∀ ch a a' w, Qb (.panic ch) a w → Qb (.panic ch) a' w) →
    (∀ is' e', GC w0 (recI l { r with state := .busy } :: is') ⟨n, [], some l⟩ body Qb e' → GK w0 (recI l { r with state := .ready } :: is') ⟨n, [], some l⟩ Ka e') →
    (∀ s' e', inv (pre ++ [x]) s' → GK w0 (recI l { r with state := .busy } :: (updL A (ti s') ++ [tailI js])) ⟨n, [], some l⟩ (Qb .normal) e') →
    (∀ s' e', invX .ret (pre ++ [x]) s' → GK w0 (recI l { r with state := .busy } :: (updL A (ti s') ++ [tailI js])) ⟨n, [], some l⟩ (Qb .ret) e') →
    (∀ id s' e', invX (.exit id) (pre ++ [x]) s' → GK w0 (recI l { r with state := .busy } :: (updL A (ti s') ++ [tailI js])) ⟨n, [], some l⟩ (Qb (.exit id)) e') →
    GC w0 (recI l { r with state := .ready } :: (updL A (ti s) ++ tailI js :: T x)) ⟨n, [], some l⟩ assign (Exit.then Ka fun _ _ _ => False) ((p, val x) :: e)
theorem yieldC_of {a : Act} {fnr : Nat} {l : Nat} {r : Loop} {X : List Itm} (F : Fit N e a) (hN : Nat.blt p N = true) (hca : calmC assign = true) (hcb : calmC body = true)
    (hr : r = { state := .ready, pending := none, fn := fnr, tmps := a.tmps, params := #[p], assign, body, defers := r.defers })
    (round : RoundC w0 N.n assign body p e val T dec L A ti inv invX) :
    YieldC w0 (fun pre => consI (fun s => recI l { r with state := .ready } :: (X ++ updL A (ti s))) (inv pre))
      (fun pre => consI (fun cs : Code × σ => recI l { r with state := .done, pending := some cs.1 } :: (X ++ updL A (ti cs.2))) (fun cs => jumpC cs.1 ∧ invX cs.1 pre cs.2)) l val T dec L := by
  obtain ⟨C, hC⟩ : ∃ C : List α → Itm, C = fun pre => consI (fun s => recI l { r with state := .ready } :: (X ++ updL A (ti s))) (inv pre) := ⟨_, rfl⟩
  obtain ⟨Cx, hCx⟩ : ∃ C : List α → Itm, C = fun pre => consI (fun cs : Code × σ => recI l { r with state := .done, pending := some cs.1 } :: (X ++ updL A (ti cs.2))) (fun cs => jumpC cs.1 ∧ invX cs.1 pre cs.2) := ⟨_, rfl⟩
  rw [← hC, ← hCx]
  intro W js pre x hpre M
  have inC : ∀ ys s' W', inv ys s' → Mem w0 W' ((recI l { r with state := .ready } :: (X ++ updL A (ti s'))) ++ js) → Mem w0 W' (C ys :: js) := fun ys s' W' h M => by rw [hC]; exact mem_cons_in s' h M
  have inX : ∀ ys c s' W', jumpC c ∧ invX c ys s' → Mem w0 W' ((recI l { r with state := .done, pending := some c } :: (X ++ updL A (ti s'))) ++ js) → Mem w0 W' (Cx ys :: js) := fun ys c s' W' h M => by
    rw [hCx]; exact mem_cons_in (L := fun cs : Code × σ => recI l { r with state := .done, pending := some cs.1 } :: (X ++ updL A (ti cs.2))) (c, s') h M
  obtain ⟨s, hi, M⟩ : ∃ s, inv pre s ∧ Mem w0 W ((recI l { r with state := .ready } :: (X ++ updL A (ti s))) ++ (T x ++ js)) := by
    rw [hC] at M; exact mem_cons_out M
  clear hC hCx
  have hrd : ({ r with state := .ready } : Loop) = r := by rw [hr]
  have hlook : W.heap[l]? = some (.loop r) := by
    have := (mem_rec r M (n := 0) rfl).1
    rwa [hrd] at this
  have hy := run_yield (P := Tryz.prog) (args := #[val x]) hlook (by rw [hr]; rfl)
  have back : ∀ (r' : Loop) (is' : List Itm) (W' : World), Mem w0 W' (recI l r' :: (is' ++ [tailI (X ++ js)])) → Mem w0 W' ((recI l r' :: (X ++ is')) ++ js) := fun r' is' W' M' => by
    have h2 := mem_tail_out (L := recI l r' :: is') M'
    refine mem_perm (List.Perm.cons _ ?_) h2
    show (is' ++ (X ++ js)).Perm ((X ++ is') ++ js)
    rw [← List.append_assoc]
    exact List.Perm.append_right js List.perm_append_comm
  have M1 : Mem w0 W (recI l { r with state := .ready } :: (updL A (ti s) ++ tailI (X ++ js) :: T x)) := by
    have h1 : Mem w0 W ((recI l { r with state := .ready } :: (updL A (ti s) ++ T x)) ++ (X ++ js)) := mem_perm (by
      show ((recI l _ :: (X ++ updL A (ti s))) ++ (T x ++ js)).Perm _
      refine List.Perm.cons _ ?_
      show ((X ++ updL A (ti s)) ++ (T x ++ js)).Perm ((updL A (ti s) ++ T x) ++ (X ++ js))
      rw [List.append_assoc X, ← List.append_assoc (updL A (ti s)), ← List.append_assoc X, ← List.append_assoc (updL A (ti s) ++ T x)]
      exact List.Perm.append_right js List.perm_append_comm) M
    refine mem_perm (List.Perm.cons _ ?_) (mem_tail_in h1)
    show ((updL A (ti s) ++ T x) ++ [tailI (X ++ js)]).Perm _
    rw [List.append_assoc]
    exact List.Perm.append_left _ (List.perm_append_singleton _ _)
  refine ⟨fnr, _, assign, body, by rw [hr] at hy; exact hy, roundIn_of_wpIn trivial ?_⟩
  have hfold : (#[p].zip #[val x]).foldl (fun tmps (t, a) => tmps.setIfInBounds t a) a.tmps = a.tmps.setIfInBounds p (val x) := by simp
  refine round l r (X ++ js) pre x s hi hpre _ (roundPost Tryz.prog l (fun e W' => (e = .returned (.bool true) ∧ Mem w0 W' (C (pre ++ [x]) :: js)) ∨ (e = .returned (.bool false) ∧ Mem w0 W' (Cx (pre ++ [x]) :: js)))) (fun _ _ _ _ h => h.elim) (fun is' e' hG w' a' M' F' => ?_) (fun s' e' hi' w' a' M' F' => ?_) (fun s' e' hi' w' a' M' F' => ?_) (fun id s' e' hi' w' a' M' F' => ?_) W _ M1 (by
    have := fit_round (l := l) (v := val x) F hN
    rw [← hfold] at this
    exact this) (fun _ => ⟨hca, fun _ _ h => h⟩)
  · obtain ⟨h1, h2⟩ := mem_rec { r with state := .busy } M' (n := 0) rfl
    exact ⟨_, run_beginRound h1 rfl, hG _ _ h2 F' (fun _ => ⟨hcb, fun _ _ h => h⟩)⟩
  · obtain ⟨h1, h2⟩ := mem_rec { r with state := .ready, pending := none } M' (n := 0) rfl
    refine ⟨_, _, run_endRound none h1, .inl ⟨rfl, ?_⟩⟩
    have e1 : ({ r with state := .ready, pending := none } : Loop) = { r with state := .ready } := by rw [hr]
    have h3 : Mem w0 (w'.putObj l (.loop { r with state := .ready, pending := none })) ((recI l { r with state := .ready } :: (X ++ updL A (ti s'))) ++ js) := by
      have := back _ _ _ h2
      rw [e1] at this ⊢
      exact this
    exact inC _ s' _ hi' h3
  · obtain ⟨h1, h2⟩ := mem_rec { r with state := .done, pending := some .ret } M' (n := 0) rfl
    exact ⟨_, _, run_endRound (some .ret) h1, .inr ⟨rfl, inX _ .ret s' _ ⟨trivial, hi'⟩ (back _ _ _ h2)⟩⟩
  · obtain ⟨h1, h2⟩ := mem_rec { r with state := .done, pending := some (.exit id) } M' (n := 0) rfl
    exact ⟨_, _, run_endRound (some (.exit id)) h1, .inr ⟨rfl, inX _ (.exit id) s' _ ⟨trivial, hi'⟩ (back _ _ _ h2)⟩⟩
theorem gc_rangeF (nA : Nat) {X : List Itm} {Ds : List Nat} {nf : Nat} (hB : X.drop nA = B) (hg : evo e g = some (.func (.func gf) #[] lb.toArray)) (hfn : Tryz.prog.funcs[gf]? = some fn) (hb : fn.body.isNone = false) (hn : (fn.name == "runtime.NumGoroutine") = false) (hN : Nat.blt p nf = true)
    (hseq : SeqC w0 B gf lb val T dec L) (ti : σ → List (Nat × Itm)) (inv : List α → σ → Prop) (invX : Code → List α → σ → Prop) (s0 : σ) (h0 : inv [] s0) (hA : updL (X.take nA) (ti s0) = X.take nA) (hca : calmC assign = true) (hcb : calmC body = true)
    (round : RoundC w0 nf assign body p e val T dec L (X.take nA) ti inv invX)
    (done : ∀ (D : Nat) xs s, xs.map dec = L → inv xs s → GK w0 (dfsI (D :: Ds) :: (updL (X.take nA) (ti s) ++ B)) ⟨nf, D :: Ds, none⟩ (Q .normal) e)
    (stopR : ∀ (D : Nat) pre s, pre.map dec <+: L → invX .ret pre s → GK w0 (dfsI (D :: Ds) :: (updL (X.take nA) (ti s) ++ B)) ⟨nf, D :: Ds, none⟩ (Q .ret) e)
    (stopE : ∀ (D : Nat) id pre s, pre.map dec <+: L → invX (.exit id) pre s → GK w0 (dfsI (D :: Ds) :: (updL (X.take nA) (ti s) ++ B)) ⟨nf, D :: Ds, none⟩ (Q (.exit id)) e) :
    GC w0 (dfsI Ds :: X) ⟨nf, Ds, none⟩ (.rangeFunc g #[p] assign body) Q e := by
  intro w a M F R
  refine wpIn_rangeFunc ?_
  intro fnr _
  rw [show (At (⟨nf, Ds, none⟩ : Frm).rd).round = none from rfl]
  obtain ⟨r, hr⟩ : ∃ r : Loop, r = { state := .ready, pending := none, fn := fnr, tmps := a.tmps, params := #[p], assign, body, defers := w.heap.size } := ⟨_, rfl⟩
  obtain ⟨W1, hW1⟩ : ∃ W1, (w.alloc (.deferred (some []))).alloc (.loop r) = W1 := ⟨_, rfl⟩
  have hrd : ({ r with state := .ready } : Loop) = r := by rw [hr]
  have M0 := mem_dfs_new M (n := 0) rfl
  have M1 : Mem w0 W1 ((recI (w.heap.size + 1) { r with state := .ready } :: ([dfsI (w.heap.size :: Ds)] ++ updL (X.take nA) (ti s0))) ++ B) := by
    have h1 := mem_rec_new r M0
    rw [hW1, World.size_alloc] at h1
    rw [hrd, hA]
    refine mem_perm ?_ h1
    show ((dfsI (w.heap.size :: Ds) :: X) ++ [recI (w.heap.size + 1) r]).Perm _
    refine (List.perm_append_singleton _ _).trans (List.Perm.cons _ ?_)
    show (dfsI (w.heap.size :: Ds) :: X).Perm (([dfsI (w.heap.size :: Ds)] ++ X.take nA) ++ B)
    rw [← hB, List.append_assoc, List.take_append_drop]
    exact List.Perm.refl _
  have hY := yieldC_of (l := w.heap.size + 1) (r := r) (X := [dfsI (w.heap.size :: Ds)]) (fnr := fnr) (N := ⟨nf, Ds, none⟩) F hN hca hcb (by rw [hr]) round
  refine ⟨w.heap.size + 1, [markD w.heap.size], W1, { target := .fn (.func gf) lb.toArray, args := #[.func (.yield (w.heap.size + 1)) #[] #[]] }, W1, gf, #[.func (.yield (w.heap.size + 1)) #[] #[]] ++ lb.toArray, W1, ?_, ?_, fun _ _ => trivial, ?_, (fun h => by cases h), ?_⟩
  · rw [← hW1, hr]; exact run_enterLoop_outer _ _ _ _ _
  · simp only [resolve, fit_eval F hg]
    simp [go_sem, Act.eval]
  · simp [invoke, go_sem, run_invokeF hfn hb hn]
  · have hc := hseq _ _ _ hY W1 (mem_cons_in s0 h0 M1)
    rw [show (Value.func (.yield (w.heap.size + 1)) #[] #[] :: lb).toArray = #[.func (.yield (w.heap.size + 1)) #[] #[]] ++ lb.toArray by simp] at hc
    refine calls_in (hc.mono ?_)
    have F' : Fit ⟨nf, w.heap.size :: Ds, none⟩ e { a with defers := [markD w.heap.size] ++ a.defers } := ⟨F.size, by simp [F.defers], F.at_⟩
    have take : ∀ (r' : Loop) (s : σ) (W : World), Mem w0 W ((recI (w.heap.size + 1) r' :: ([dfsI (w.heap.size :: Ds)] ++ updL (X.take nA) (ti s))) ++ B) → W.heap[w.heap.size + 1]? = some (.loop r') ∧
        Mem w0 (W.putObj (w.heap.size + 1) (.loop { r' with state := .exhausted })) (dfsI (w.heap.size :: Ds) :: (updL (X.take nA) (ti s) ++ B)) := fun r' s W M' => by
      obtain ⟨h1, h2⟩ := mem_rec { r' with state := .exhausted } M' (n := 0) rfl
      exact ⟨h1, mem_erase 0 h2⟩
    rintro e' W2 ⟨⟨v, rfl⟩, (⟨xs, hL, M2⟩ | ⟨pre, hL, M2⟩)⟩
    · obtain ⟨s, hi, M3⟩ := mem_cons_out M2
      obtain ⟨h1, h2⟩ := take _ s W2 M3
      refine ⟨none, _, ?_, done _ xs s hL hi _ _ h2 F'⟩
      have := run_endLoop (P := Tryz.prog) h1 (by simp)
      rw [this]
      rw [show ({ r with state := .ready } : Loop).pending = none by rw [hr]]
    · obtain ⟨⟨c, s⟩, ⟨hj, hi⟩, M3⟩ := mem_cons_out M2
      obtain ⟨h1, h2⟩ := take _ s W2 M3
      refine ⟨some c, _, run_endLoop (P := Tryz.prog) h1 (by simp), ?_⟩
      cases c <;> first | exact hj.elim | skip
      · exact wpIn_exit (stopE _ _ pre s hL hi _ _ h2 F')
      · exact wpIn_ret (stopR _ pre s hL hi _ _ h2 F')
end
theorem leaves_marks {fn : Func} {tmps : Array Value} {R : Ending → World → Prop} {n : Nat} : ∀ (Ds : List Nat) {is : List Itm} (w : World), is[n]? = some (dfsI Ds) → Mem w0 w is →
    (∀ w', Mem w0 w' (is.set n nilI) → LeavesIn (At none) 0 Tryz.prog fn tmps R [] .returning w') → LeavesInM (At none) 0 Tryz.prog fn tmps R (Ds.map markD) .returning w
  | [], is, w, hi, M, h => by
    refine h w ?_
    obtain ⟨S, _, _, hset⟩ := mem_set M hi
    exact hset w nilI (FrS.refl _ _) trivial
  | D :: Ds, is, w, hi, M, h => by
    obtain ⟨S, _, hp, hset⟩ := mem_set M hi
    obtain ⟨h1, h2⟩ := hp.1 D (List.mem_cons_self ..)
    have hl := (Array.getElem?_eq_some_iff.1 h1).1
    have hnd := List.nodup_cons.1 hp.2
    have M' : Mem w0 (w.putObj D (.deferred none)) (is.set n (dfsI Ds)) := hset _ _ (frS_putObj h2) ⟨fun E hE => by
      obtain ⟨h3, h4⟩ := hp.1 E (List.mem_cons_of_mem _ hE)
      have hne : E ≠ D := by rintro rfl; exact hnd.1 hE
      exact ⟨(World.putObj_heap_other hne).trans h3, .inl h4⟩, hnd.2⟩
    have hn : n < is.length := (List.getElem?_eq_some_iff.1 hi).1
    have ih := leaves_marks (fn := fn) (tmps := tmps) (R := R) (n := n) Ds (w.putObj D (.deferred none)) (is := is.set n (dfsI Ds)) (by simp [hn]) M' fun w' M2 => h w' (by simpa using M2)
    exact ⟨by simp, .inl ⟨D, _, rfl, run_takeDeferred h1, ih⟩⟩
def postM (fn : Func) (R : Ending → World → Prop) : Exit → Act → World → Prop
  | .panic _, _, _ => False
  | e, a, w => bodyPostM (At none) 0 Tryz.prog fn R e a w
theorem postM_sub {fn : Func} {R : Ending → World → Prop} {e : Exit} {a : Act} {w : World} (h : postM fn R e a w) : bodyPostM (At none) 0 Tryz.prog fn R e a w := by
  cases e <;> first | exact h | exact h.elim
theorem gk_marks {fn : Func} {R : Ending → World → Prop} {n : Nat} {Ds : List Nat} (hi : is[n]? = some (dfsI Ds)) (hds : N.ds = Ds) (h : GK w0 (is.set n nilI) (Frm.of N.n) (bodyPost Tryz.prog fn R .ret) e) : GK w0 is N (postM fn R .ret) e := by
  intro w a M F
  show LeavesInM _ _ _ _ _ _ a.defers _ w
  rw [F.defers, hds]
  exact leaves_marks Ds w hi M fun w' M' => (h w' { a with defers := [] } M' ⟨F.size, rfl, F.at_⟩).2
theorem gk_marksn {fn : Func} {R : Ending → World → Prop} {n : Nat} {Ds : List Nat} (hi : is[n]? = some (dfsI Ds)) (hds : N.ds = Ds) (h : GK w0 (is.set n nilI) (Frm.of N.n) (bodyPost Tryz.prog fn R .normal) e) : GK w0 is N (postM fn R .normal) e := gk_marks hi hds h
theorem gc_enterK {f : FuncId} {c : Code} {args : List Value} {w : World} {R : Ending → World → Prop} {nf : Nat} {fn : Func} (M : Mem w0 w is) (hf : Tryz.prog.funcs[f]? = some fn) (hb : fn.body = some c) (hN : fn.ntmps = nf) (ha : args.length ≤ nf)
    (he : ∀ t v, look e t = some v → (args ++ List.replicate (nf - args.length) undef)[t]? = some v) (h : GC w0 (dfsI [] :: is) ⟨nf, [], none⟩ c (postM fn R) e) : Calls Tryz.prog f args.toArray w R := by
  refine calls_out (n := 0) (callsIn_of_wp_marks hf hb trivial (wpIn_mono (Q := postM fn R) ?_ fun _ _ _ => postM_sub) rfl)
  have M' : Mem w0 w (dfsI [] :: is) := ⟨M.1, fun _ => False, fun k => w0.heap.size ≤ k, fun _ h => h.elim, fun _ h => h, fun _ h => h.elim, ⟨(fun D hD => by cases hD), List.nodup_nil⟩, M.2⟩
  refine h w _ M' ⟨?_, rfl, fun t v hv => ?_⟩ (fun h => absurd rfl h)
  · rw [hN]; simp; omega
  · have := he t v hv
    rw [hN]
    have e1 : (args.toArray ++ Array.replicate (nf - args.toArray.size) undef) = (args ++ List.replicate (nf - args.length) undef).toArray := by simp
    show (args.toArray ++ Array.replicate (nf - args.toArray.size) undef)[t]? = some v
    rw [e1]; simpa using this
theorem run_yieldV {o : Oper} {x y : Operand} {ts : Array TypeId} {l : Nat} {v : Value} {a : Act} {w w' : World} {r : Next} (hop : o.op = .call { callee := .value x, args := #[y], argTypes := ts }) (hx : evo e x = some (.func (.yield l) #[] #[])) (hy : evo e y = some v) (F : Fit N e a)
    (hr : (Instr.yield l #[v]).run Tryz.prog w = .ok r w') : (execOp a.eval o).run Tryz.prog w = .ok r w' := by
  simp [execOp, hop, resolve, fit_eval F hx, fit_eval F hy, Deferred.ofValue, invoke, hr]
theorem g_yield {α β : Type} {ops : Array Oper} {o : Oper} {rest : List Oper} {d l : Nat} {x y : Operand} {ts : Array TypeId} {C Cx : List α → Itm} {val : α → Value} {T : α → List Itm} {dec : α → β} {L : List β} {pre : List α} (z : α) {js : List Itm}
    (hw : Want ops e o true) (hd : o.dst = some d) (hN : Nat.blt d N = true) (hop : o.op = .call { callee := .value x, args := #[y], argTypes := ts }) (hx : evo e x = some (.func (.yield l) #[] #[])) (hy : evo e y = some (val z)) (Y : YieldC w0 C Cx l val T dec L)
    (hpre : ((pre ++ [z]).map dec) <+: L) (his : is.Perm (C pre :: (T z ++ js))) (h1 : G w0 (C (pre ++ [z]) :: js) N ops Q rest ((d, .bool true) :: e)) (h2 : G w0 (Cx (pre ++ [z]) :: js) N ops Q rest ((d, .bool false) :: e)) : G w0 is N ops Q (o :: rest) e := by
  intro w a M F R
  unfold wpListIn
  rw [if_pos (want_eq hw F)]
  refine ⟨fun _ _ => trivial, ?_⟩
  obtain ⟨fnr, tmps, assign, body, hr, hR⟩ := Y w js pre z hpre (mem_perm his M)
  rw [show (At N.rd).round = N.rd from rfl, calm_sem R.o, run_yieldV hop hx hy F hr, Oper.uponIn_round]
  refine ⟨(fun h => by cases h), ?_⟩
  refine RoundIn.mono (F := At N.rd) hR fun e' W' h => ?_
  rcases h with ⟨rfl, M'⟩ | ⟨rfl, M'⟩
  · show wpListIn _ _ _ _ _ _ (Act.put a o.dst _) W'
    rw [hd]
    exact h1 _ _ M' (fit_put F hN) R.r
  · show wpListIn _ _ _ _ _ _ (Act.put a o.dst _) W'
    rw [hd]
    exact h2 _ _ M' (fit_put F hN) R.r
theorem gc_seqD {nf : Nat} {Ds : List Nat} {rd : Option Nat} {x y : Code} (h : ∀ K : Act → World → Prop, (∀ {Ds : List Nat} (is : List Itm) (e : Env), GC w0 is ⟨nf, Ds, rd⟩ y Q e → GK w0 is ⟨nf, Ds, rd⟩ K e) → GC w0 is ⟨nf, Ds, rd⟩ x (Exit.then K Q) e) : GC w0 is ⟨nf, Ds, rd⟩ (.seq x y) Q e :=
  fun w a M F R => wpIn_seq (h _ (fun _ _ hy w a M F => hy w a M F (rdy_r (N := ⟨nf, Ds, rd⟩) R)) w a M F (rdy_l R))
theorem gc_loopD {nf : Nat} {Ds0 : List Nat} {c : Code} {σ : Type} (C : Env) (E : σ → Env) (ti : σ → List (Nat × Itm)) (D : σ → List Nat) (inv : σ → Prop) (μ : σ → Nat) (s0 : σ)
    (hC : Sub (E s0 ++ C) e) (ht : updL is (ti s0) = is) (hD : D s0 = Ds0) (h0 : inv s0)
    (round : ∀ s, inv s → ∀ K : Act → World → Prop, (∀ s', inv s' → μ s' < μ s → GK w0 (updL is (ti s')) ⟨nf, D s', none⟩ K (E s' ++ C)) → GC w0 (updL is (ti s)) ⟨nf, D s, none⟩ c (Exit.then K Q) (E s ++ C)) :
    GC w0 is ⟨nf, Ds0, none⟩ (.loop c) Q e := by
  intro w a M F R
  subst hD
  refine wpIn_loop (fun a w => ∃ s, inv s ∧ Fit ⟨nf, D s, none⟩ (E s ++ C) a ∧ Mem w0 w (updL is (ti s)))
    (fun a w => leastN fun n => ∃ s, inv s ∧ Fit ⟨nf, D s, none⟩ (E s ++ C) a ∧ Mem w0 w (updL is (ti s)) ∧ μ s = n) ⟨s0, h0, fit_sub hC F, by rw [ht]; exact M⟩ ?_
  rintro a w ⟨s1, i1, ha, hM⟩
  obtain ⟨⟨s, hi, ha2, hM2, hmu⟩, _⟩ := leastN_spec (p := fun n => ∃ s, inv s ∧ Fit ⟨nf, D s, none⟩ (E s ++ C) a ∧ Mem w0 w (updL is (ti s)) ∧ μ s = n) ⟨s1, i1, ha, hM, rfl⟩
  have hr := round s hi (fun a' w' => ∃ s', inv s' ∧ μ s' < μ s ∧ Fit ⟨nf, D s', none⟩ (E s' ++ C) a' ∧ Mem w0 w' (updL is (ti s'))) (fun s' h1 h2 w' a' M' F' => ⟨s', h1, h2, F', M'⟩) w a hM2 ha2 (fun h => absurd rfl h)
  refine Code.wpIn_mono (fun e a' w' q => ?_) hr
  cases e with
  | normal =>
    obtain ⟨s', h1, h2, h3, h4⟩ := q
    refine ⟨⟨s', h1, h3, h4⟩, ?_⟩
    have := (leastN_spec (p := fun n => ∃ s, inv s ∧ Fit ⟨nf, D s, none⟩ (E s ++ C) a' ∧ Mem w0 w' (updL is (ti s)) ∧ μ s = n) ⟨s', h1, h3, h4, rfl⟩).2
    show leastN _ < leastN _
    omega
  | exit _ => exact q
  | goto _ => exact q
  | ret => exact q
  | panic _ => exact q
  | outgrown => exact q
end
end Go.Proofs.YtpcabkdkdnchaaaGreat
set_option linter.unusedSimpArgs false
set_option linter.unusedVariables false
set_option linter.unusedSectionVars false
namespace Go.Proofs.YtpcabkdkdnchaaaGreat
open Go.RowKit
section
variable {w0 : World} {is : List Itm} {N : Frm} {e : Env} {v : Value}
theorem run_loadC {t : TypeId} {a : Addr} {w : World} {td : TypeDesc} (ht : Tryz.prog.underlying t = some td) (hd : aggT td = false) (hc : w.cell? a = some v) : (loadVar t a).run Tryz.prog w = .ok v w := by
  have hagg : (isAgg t).run Tryz.prog w = .ok false w := by
    unfold isAgg
    rw [Sem.run_bind, run_underlying ht w]
    cases td <;> simp_all [aggT]
  simp [loadVar, Sem.run_bind, hagg, hc]
theorem ret_c2 {fn : Func} {a n B a' n' B' : Nat} {t tb t' tb' : TypeId} {td td' : TypeDesc} {v' : Value} {R : Ending → World → Prop} (h : fn.results = #[.cell a t, .cell a' t']) (ha : look e a = some (.pointer (some ⟨B, 0, none⟩))) (ha' : look e a' = some (.pointer (some ⟨B', 0, none⟩))) (ht : Tryz.prog.underlying t = some td) (hd : aggT td = false) (ht' : Tryz.prog.underlying t' = some td') (hd' : aggT td' = false) (hi : is[n]? = some (bxI B tb [v])) (hi' : is[n']? = some (bxI B' tb' [v']))
    (hR : ∀ w, Mem w0 w is → R (.returned (.tuple #[v, v'])) w) (hds : N.ds = [] := by rfl) : GK w0 is N (bodyPost Tryz.prog fn R .ret) e :=
  fun w ac M F => bodyPost_ret (v := .tuple #[v, v']) (by
    have h2 := fit_res F ha
    have h2' := fit_res F ha'
    have hc := bx_cell (mem_bx M hi) 0 (v := v) rfl
    have hc' := bx_cell (mem_bx M hi') 0 (v := v') rfl
    simp [results, h, h2, h2', asAddr, run_loadC ht hd hc, run_loadC ht' hd' hc']) (F.nil hds) (hR w M)
theorem ret_ST {is : List Itm} {fn : Func} {a b c n B : Nat} {t tb : TypeId} {cs : List Value} {v x : Value} {td : TypeDesc} {R : Ending → World → Prop} (h : fn.results = #[.cell a t, .tmp b, .tmp c]) (ha : look e a = some (.pointer (some ⟨B, 0, none⟩))) (hb : look e b = some v) (hx : look e c = some x) (ht : Tryz.prog.underlying t = some td) (hd : aggT td = true) (hs : (Tryz.prog.info? t).map (·.size) = some cs.length) (hi : is[n]? = some (bxI B tb cs))
    (hR : ∀ w, Mem w0 w is → R (.returned (.tuple #[.agg cs.toArray, v, x])) w) (hds : N.ds = [] := by rfl) : GK w0 is N (bodyPost Tryz.prog fn R .ret) e :=
  fun w ac M F => bodyPost_ret (v := .tuple #[.agg cs.toArray, v, x]) (by
    have h2 := fit_res F ha
    simp [results, h, h2, asAddr, run_loadS M ht hd hs hi, fit_res F hb, fit_res F hx]) (F.nil hds) (hR w M)
theorem ret_SQ {is : List Itm} {fn : Func} {a b c d n B : Nat} {t tb : TypeId} {cs : List Value} {v x y : Value} {td : TypeDesc} {R : Ending → World → Prop} (h : fn.results = #[.cell a t, .tmp b, .tmp c, .tmp d]) (ha : look e a = some (.pointer (some ⟨B, 0, none⟩))) (hb : look e b = some v) (hx : look e c = some x) (hy : look e d = some y) (ht : Tryz.prog.underlying t = some td) (hd : aggT td = true) (hs : (Tryz.prog.info? t).map (·.size) = some cs.length) (hi : is[n]? = some (bxI B tb cs))
    (hR : ∀ w, Mem w0 w is → R (.returned (.tuple #[.agg cs.toArray, v, x, y])) w) (hds : N.ds = [] := by rfl) : GK w0 is N (bodyPost Tryz.prog fn R .ret) e :=
  fun w ac M F => bodyPost_ret (v := .tuple #[.agg cs.toArray, v, x, y]) (by
    have h2 := fit_res F ha
    simp [results, h, h2, asAddr, run_loadS M ht hd hs hi, fit_res F hb, fit_res F hx, fit_res F hy]) (F.nil hds) (hR w M)
end
end Go.Proofs.YtpcabkdkdnchaaaGreat
set_option linter.unusedSimpArgs false
set_option linter.unusedVariables false
set_option linter.unusedSectionVars false
namespace Go.Proofs.YtpcabkdkdnchaaaGreat
open Go.RowKit
def CallsV (v : Value) (vs : List Value) (w : World) (R : Ending → World → Prop) : Prop :=
  ∃ (f : FuncId) (us : Array Value), ((Deferred.ofValue v vs.toArray >>= fun d => invoke d.target d.args : Sem Next).run Tryz.prog w = .ok (.enter f us) w) ∧ Calls Tryz.prog f us w R
theorem callsV_f {f : FuncId} {fn : Func} {bnd vs caps : List Value} {w : World} {R : Ending → World → Prop} (hfn : Tryz.prog.funcs[f]? = some fn) (hb : fn.body.isNone = false) (hn : (fn.name == "runtime.NumGoroutine") = false)
    (hc : Calls Tryz.prog f (bnd ++ vs ++ caps).toArray w R) : CallsV (.func (.func f) bnd.toArray caps.toArray) vs w R := by
  refine ⟨f, (bnd ++ vs ++ caps).toArray, ?_, hc⟩
  have hb' : ¬ fn.body = none := fun h => by rw [h] at hb; simp at hb
  have hn' : ¬ fn.name = "runtime.NumGoroutine" := by simpa using hn
  simp [Deferred.ofValue, invoke, callFunc, hfn, hn', hb']
section
variable {w0 : World} {is : List Itm} {ops : Array Oper} {Q : Exit → Act → World → Prop} {o : Oper} {N : Frm} {e : Env} {v u : Value} {d : Nat} {K : Act → World → Prop} {f : FuncId} {fn : Func} {ags : Array Operand} {ts : Array TypeId} {vs : List Value}
theorem run_enterV {x : Operand} {R : Ending → World → Prop} (hop : o.op = .call { callee := .value x, args := ags, argTypes := ts }) (hx : evo e x = some u) (hargs : evoL e ags.toList = some vs) {w : World} {a : Act} (F : Fit N e a) (hc : CallsV u vs w R) :
    ∃ f us, (execOp a.eval o).run Tryz.prog w = .ok (.enter f us) w ∧ Calls Tryz.prog f us w R := by
  obtain ⟨f, us, h1, h2⟩ := hc
  refine ⟨f, us, ?_, h2⟩
  have ha : ags.map a.eval = vs.toArray := by
    have := fit_evals F hargs
    rw [← this]; apply Array.toList_inj.1; simp
  have hx' := fit_eval F hx
  simp only [execOp, hop, resolve, hx', ha]
  exact h1
theorem qt_callV {x : Operand} (hop : o.op = .call { callee := .value x, args := ags, argTypes := ts }) (hx : evo e x = some u) (hargs : evoL e ags.toList = some vs)
    (hc : ∀ w, Mem w0 w is → CallsV u vs w (fun e w' => e = .returned v ∧ Below w.heap.size w w')) : QT w0 is N o e v := by
  intro w ac M F
  unfold Oper.quietAt
  obtain ⟨f, us, h1, h2⟩ := run_enterV hop hx hargs F (hc w M)
  rw [h1]
  exact ⟨rfl, h2.mono fun e w' h => ⟨h.1, mem_keep M h.2⟩⟩
theorem go_callV {w : World} {a : Act} {x : Operand} {R : Ending → World → Prop} (hd : o.dst = some d) (hN : Nat.blt d N = true) (F : Fit N e a) (hop : o.op = .call { callee := .value x, args := ags, argTypes := ts }) (hx : evo e x = some u) (hargs : evoL e ags.toList = some vs)
    (hc : CallsV u vs w R) (hk : ∀ e' w', R e' w' → ∃ v, e' = .returned v ∧ ∀ a, Fit N ((d, v) :: e) a → K a w') : o.wp Tryz.prog a w K Q := by
  unfold Oper.wp
  obtain ⟨f, us, h1, h2⟩ := run_enterV hop hx hargs F hc
  rw [h1, Oper.upon_enter]
  refine h2.mono fun e' w' h => ?_
  obtain ⟨v, rfl, h2⟩ := hk e' w' h
  show K (Act.put _ o.dst v) w'
  rw [hd]
  exact h2 _ (fit_put F hN)
end
def IsFn (v : Value) : Prop := ∃ (f : Fn) (a b : Array Value), v = .func f a b
theorem IsFn.cells {v : Value} (h : IsFn v) : v.cells = #[v] := by obtain ⟨f, a, b, rfl⟩ := h; rfl
theorem IsFn.one {v : Value} (h : IsFn v) : v.oneCell' = true := by obtain ⟨f, a, b, rfl⟩ := h; rfl
section
variable {w0 : World} {is : List Itm} {ops : Array Oper} {Q : Exit → Act → World → Prop} {o : Oper} {N : Frm} {e : Env} {v u : Value} {d : Nat} {K : Act → World → Prop} {f : FuncId} {fn : Func} {ags : Array Operand} {ts : Array TypeId} {vs : List Value}
end
section
variable {w0 : World} {is : List Itm} {Q : Exit → Act → World → Prop} {o : Oper} {N : Frm} {e : Env} {v u : Value} {d : Nat} {K : Act → World → Prop}
end
section
variable {w0 : World} {is : List Itm} {o : Oper} {e : Env}
end
end Go.Proofs.YtpcabkdkdnchaaaGreat
set_option linter.unusedSimpArgs false
set_option linter.unusedVariables false
set_option linter.unusedSectionVars false
namespace Go.Proofs.YtpcabkdkdnchaaaGreat
open Go.RowKit
section
variable {w0 : World} {is : List Itm} {o : Oper} {e : Env}
end
theorem star_unapp : ∀ (is js : List Itm) {w : World} {S : Nat → Prop}, Star (is ++ js) w S → ∃ S1 S2 : Nat → Prop, (∀ k, S1 k → S k) ∧ (∀ k, S2 k → S k) ∧ (∀ k, S1 k → ¬ S2 k) ∧ Star is w S1 ∧ Star js w S2
  | [], js, w, S, h => ⟨fun _ => False, S, fun k h => h.elim, fun k h => h, fun k h => h.elim, trivial, h⟩
  | i :: is, js, w, S, h => by
    obtain ⟨S1, S2, k1, k2, kd, h1, h2⟩ := h
    obtain ⟨T1, T2, t1, t2, td, a1, a2⟩ := star_unapp is js h2
    refine ⟨fun k => S1 k ∨ T1 k, T2, fun k h => h.elim (k1 k) fun h => k2 k (t1 k h), fun k h => k2 k (t2 k h), fun k h h' => h.elim (fun h => kd k h (t2 k h')) fun h => td k h h', ?_, a2⟩
    exact ⟨S1, T1, fun k h => .inl h, fun k h => .inr h, fun k h h' => kd k h (t1 k h'), h1, a1⟩
theorem starS_ownC {w : World} {S : Nat → Prop} {v : Value} {c : Cat} (h : OwnC v c w S) : ∃ (a1 a2 a3 a4 : Option Addr) (k1 k2 k3 k4 : Nat) (uu : List Value), v = .agg #[.int .i64 c.ob, .slice a1 c.s.length k1, .slice a2 c.t.length k2, .slice a3 c.e.length k3, .slice a4 c.m.length k4] ∧ Star [own1I (.slice a1 c.s.length k1) c.s, own1I (.slice a2 c.t.length k2) c.t, own1I (.slice a3 c.e.length k3) c.e, own2U (.slice a4 c.m.length k4) uu c.m] w S := by
  obtain ⟨vs, vt, ve, vm, P1, P2, P3, P4, hv, h1, h2, h3, ⟨us, h4⟩, hs, d12, d13, d14, d23, d24, d34⟩ := ownC_open h
  obtain ⟨a1, k1, rfl⟩ := rd_form (Own1.rd h1)
  obtain ⟨a2, k2, rfl⟩ := rd_form (Own1.rd h2)
  obtain ⟨a3, k3, rfl⟩ := rd_form (Own1.rd h3)
  obtain ⟨a4, k4, rfl⟩ := rd2_form (Own2.rd (S := P4) ⟨us, h4⟩)
  refine ⟨a1, a2, a3, a4, k1, k2, k3, k4, us, hv, P1, fun k => P2 k ∨ P3 k ∨ P4 k, fun k h => (hs k (.inl h)).1, fun k h => (hs k (.inr h)).1, ?_, h1, P2, fun k => P3 k ∨ P4 k, fun k h => .inl h, fun k h => .inr h, ?_, h2, P3, P4, fun k h => .inl h, fun k h => .inr h, d34, h3, P4, fun _ => False, fun k h => h, fun k h => h.elim, fun k _ h => h, h4, trivial⟩
  · rintro k hk (h | h | h)
    · exact d12 k hk h
    · exact d13 k hk h
    · exact d14 k hk h
  · rintro k hk (h | h)
    · exact d23 k hk h
    · exact d24 k hk h
theorem ownC_starS {w : World} {S : Nat → Prop} {c : Cat} {vs vt ve vm : Value} {us : List Value} {is : List Itm} (h : Star (own1I vs c.s :: own1I vt c.t :: own1I ve c.e :: own2U vm us c.m :: is) w S) : OwnC (.agg #[.int .i64 c.ob, vs, vt, ve, vm]) c w S := by
  obtain ⟨P1, R1, a1, b1, d1, h1, P2, R2, a2, b2, d2, h2, P3, R3, a3, b3, d3, h3, P4, R4, a4, b4, d4, h4, _⟩ := h
  refine ownC_shut h1 h2 h3 ⟨us, h4⟩ (fun k h => ?_) (fun k h h' => d1 k h (a2 k h')) (fun k h h' => d1 k h (b2 k (a3 k h'))) (fun k h h' => d1 k h (b2 k (b3 k (a4 k h')))) (fun k h h' => d2 k h (a3 k h')) (fun k h h' => d2 k h (b3 k (a4 k h'))) (fun k h h' => d3 k h (a4 k h'))
  rcases h with h | h | h | h
  · exact a1 k h
  · exact b1 k (a2 k h)
  · exact b1 k (b2 k (a3 k h))
  · exact b1 k (b2 k (b3 k (a4 k h)))
def RetCCI (W : World) (c d : Cat) (n : Int) (e : Ending) (w' : World) : Prop := ∃ (vc vd : Value) (S1 S2 : Nat → Prop), e = .returned (.tuple #[vc, vd, .int .i64 n]) ∧ OwnC vc c w' S1 ∧ OwnC vd d w' S2 ∧ (∀ k, S1 k → W.heap.size ≤ k) ∧ (∀ k, S2 k → W.heap.size ≤ k) ∧ (∀ k, S1 k → ¬ S2 k) ∧ Below W.heap.size W w'
theorem retCCI_zero {W w' : World} {n : Int} (hb : Below W.heap.size W w') : RetCCI W cat0 cat0 n (.returned (.tuple #[.agg #[.int .i64 0, .slice none 0 0, .slice none 0 0, .slice none 0 0, .slice none 0 0], .agg #[.int .i64 0, .slice none 0 0, .slice none 0 0, .slice none 0 0, .slice none 0 0], .int .i64 n])) w' :=
  ⟨_, _, fun _ => False, fun _ => False, rfl, ownC_zero _ _, ownC_zero _ _, fun k h => h.elim, fun k h => h.elim, fun k h => h.elim, hb⟩
theorem retCCI_star {W w' : World} {c d : Cat} {n : Int} {vs vt ve vm us' ut ue um : Value} {u1 u2 : List Value} {is : List Itm} (h : Star (own1I vs c.s :: own1I vt c.t :: own1I ve c.e :: own2U vm u1 c.m :: own1I us' d.s :: own1I ut d.t :: own1I ue d.e :: own2U um u2 d.m :: is) w' (fun k => W.heap.size ≤ k)) (hb : Below W.heap.size W w') :
    RetCCI W c d n (.returned (.tuple #[.agg #[.int .i64 c.ob, vs, vt, ve, vm], .agg #[.int .i64 d.ob, us', ut, ue, um], .int .i64 n])) w' := by
  obtain ⟨S1, S2, k1, k2, kd, h1, h2⟩ := star_unapp [own1I vs c.s, own1I vt c.t, own1I ve c.e, own2U vm u1 c.m] (own1I us' d.s :: own1I ut d.t :: own1I ue d.e :: own2U um u2 d.m :: is) h
  exact ⟨_, _, S1, S2, rfl, ownC_starS h1, ownC_starS h2, k1, k2, kd, hb⟩
section
variable {w0 : World} {is : List Itm} {Q : Exit → Act → World → Prop} {o : Oper} {N : Frm} {e : Env} {v : Value} {d : Nat} {K : Act → World → Prop} {f : FuncId} {fn : Func} {ags : Array Operand} {ts : Array TypeId} {vs : List Value}
theorem go_callCCI {c c' : Cat} {n : Int} (hd : o.dst = some d) (hN : Nat.blt d N = true) (hop : o.op = .call { callee := .value (.func f), args := ags, argTypes := ts }) (hfn : Tryz.prog.funcs[f]? = some fn) (hb : fn.body.isNone = false) (hn : (fn.name == "runtime.NumGoroutine") = false)
    (hargs : evoL e ags.toList = some vs) (hc : ∀ w, Mem w0 w is → Calls Tryz.prog f vs.toArray w (RetCCI w c c' n)) (hk : ∀ a1 k1 a2 k2 a3 k3 a4 k4 uu b1 j1 b2 j2 b3 j3 b4 j4 vv, GK w0 (is ++ [own1I (.slice a1 c.s.length k1) c.s, own1I (.slice a2 c.t.length k2) c.t, own1I (.slice a3 c.e.length k3) c.e, own2U (.slice a4 c.m.length k4) uu c.m, own1I (.slice b1 c'.s.length j1) c'.s, own1I (.slice b2 c'.t.length j2) c'.t, own1I (.slice b3 c'.e.length j3) c'.e, own2U (.slice b4 c'.m.length j4) vv c'.m]) N K
      ((d, .tuple #[.agg #[.int .i64 c.ob, .slice a1 c.s.length k1, .slice a2 c.t.length k2, .slice a3 c.e.length k3, .slice a4 c.m.length k4], .agg #[.int .i64 c'.ob, .slice b1 c'.s.length j1, .slice b2 c'.t.length j2, .slice b3 c'.e.length j3, .slice b4 c'.m.length j4], .int .i64 n]) :: e)) : GO w0 is N o e Q K := by
  intro w a M F
  refine go_call hd hN F hop hfn hb hn hargs (hc w M) fun e' w' hR => ?_
  obtain ⟨vc, vd, S1, S2, rfl, h1, h2, s1, s2, sd, hbl⟩ := hR
  obtain ⟨a1, a2, a3, a4, k1, k2, k3, k4, uu, rfl, hst⟩ := starS_ownC h1
  obtain ⟨b1, b2, b3, b4, j1, j2, j3, j4, vv, rfl, hst'⟩ := starS_ownC h2
  exact ⟨_, rfl, fun a F => hk a1 k1 a2 k2 a3 k3 a4 k4 uu b1 j1 b2 j2 b3 j3 b4 j4 vv w' a (mem_news M hbl (star_app _ _ s1 s2 sd hst hst')) F⟩
theorem ret_SSI {fn : Func} {a a' b n n' B B' : Nat} {t t' tb tb' : TypeId} {cs cs' : List Value} {td td' : TypeDesc} {R : Ending → World → Prop} (h : fn.results = #[.cell a t, .cell a' t', .tmp b]) (ha : look e a = some (.pointer (some ⟨B, 0, none⟩))) (ha' : look e a' = some (.pointer (some ⟨B', 0, none⟩))) (hb : look e b = some v)
    (ht : Tryz.prog.underlying t = some td) (hd : aggT td = true) (hs : (Tryz.prog.info? t).map (·.size) = some cs.length) (hi : is[n]? = some (bxI B tb cs)) (ht' : Tryz.prog.underlying t' = some td') (hd' : aggT td' = true) (hs' : (Tryz.prog.info? t').map (·.size) = some cs'.length) (hi' : is[n']? = some (bxI B' tb' cs'))
    (hR : ∀ w, Mem w0 w is → R (.returned (.tuple #[.agg cs.toArray, .agg cs'.toArray, v])) w) (hds : N.ds = [] := by rfl) : GK w0 is N (bodyPost Tryz.prog fn R .ret) e :=
  fun w ac M F => bodyPost_ret (v := .tuple #[.agg cs.toArray, .agg cs'.toArray, v]) (by
    have h2 := fit_res F ha
    have h3 := fit_res F ha'
    simp [results, h, h2, h3, asAddr, run_loadS M ht hd hs hi, run_loadS M ht' hd' hs' hi', fit_res F hb]) (F.nil hds) (hR w M)
end
end Go.Proofs.YtpcabkdkdnchaaaGreat
set_option linter.unusedSimpArgs false
set_option linter.unusedVariables false
set_option linter.unusedSectionVars false
namespace Go.Proofs.YtpcabkdkdnchaaaGreat
open Go.RowKit
def ZeroC (W : World) (n : Int) (e : Ending) (w' : World) : Prop := e = .returned (.tuple #[.agg #[.int .i64 0, .slice none 0 0, .slice none 0 0, .slice none 0 0, .slice none 0 0], .int .i64 n]) ∧ Below W.heap.size W w'
section
variable {w0 : World} {is : List Itm} {ops : Array Oper} {Q : Exit → Act → World → Prop} {o : Oper} {rest : List Oper} {N : Frm} {n m : Nat} {e : Env} {v u : Value} {d : Nat} {K : Act → World → Prop} {f : FuncId} {fn : Func} {ags : Array Operand} {ts : Array TypeId} {vs : List Value}
theorem go_callVCI {x : Operand} {c : Cat} {n : Int} (hd : o.dst = some d) (hN : Nat.blt d N = true) (hop : o.op = .call { callee := .value x, args := ags, argTypes := ts }) (hx : evo e x = some u)
    (hargs : evoL e ags.toList = some vs) (hc : ∀ w, Mem w0 w is → CallsV u vs w (RetCI w c n)) (hk : ∀ a1 k1 a2 k2 a3 k3 a4 k4 uu, GK w0 (is ++ [own1I (.slice a1 c.s.length k1) c.s, own1I (.slice a2 c.t.length k2) c.t, own1I (.slice a3 c.e.length k3) c.e, own2U (.slice a4 c.m.length k4) uu c.m]) N K ((d, .tuple #[.agg #[.int .i64 c.ob, .slice a1 c.s.length k1, .slice a2 c.t.length k2, .slice a3 c.e.length k3, .slice a4 c.m.length k4], .int .i64 n]) :: e)) : GO w0 is N o e Q K := by
  intro w a M F
  refine go_callV hd hN F hop hx hargs (hc w M) fun e' w' hR => ?_
  obtain ⟨v, rfl, hs, hbl⟩ := hR
  obtain ⟨a1, a2, a3, a4, k1, k2, k3, k4, uu, rfl, hst⟩ := star_ownC hs
  exact ⟨_, rfl, fun a F => hk a1 k1 a2 k2 a3 k3 a4 k4 uu w' a (mem_news M hbl hst) F⟩
end
theorem retCCI_half {W w' : World} {c : Cat} {n : Int} {vs vt ve vm : Value} {u1 : List Value} {is : List Itm} (M : Mem W w' (own1I vs c.s :: own1I vt c.t :: own1I ve c.e :: own2U vm u1 c.m :: is)) :
    RetCCI W c cat0 n (.returned (.tuple #[.agg #[.int .i64 c.ob, vs, vt, ve, vm], .agg #[.int .i64 0, .slice none 0 0, .slice none 0 0, .slice none 0 0, .slice none 0 0], .int .i64 n])) w' :=
  ⟨_, _, _, fun _ => False, rfl, ownC_starS M.2, ownC_zero _ _, fun k h => h, fun k h => h.elim, fun k _ h => h, M.1⟩
end Go.Proofs.YtpcabkdkdnchaaaGreat
