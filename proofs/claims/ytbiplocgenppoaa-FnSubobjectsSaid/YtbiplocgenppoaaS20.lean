import Derived.Test.YtbiplocgenppoaaS10
import Derived.Deep.MidRow
import Derived.Test.YtbiplocgenppoaaS12
set_option linter.unusedSimpArgs false
set_option linter.unusedVariables false
set_option linter.unusedSectionVars false
namespace Go.Proofs.Ytbiplocgenppoaa
open _root_.Go.Proofs.Try
open Go.RowKit
structure Lab0 (α : Type) where
  z : Nat
  lc : α → List Value
  tE : TypeId
  tS : TypeId
  bts : Nat
  zc : Value
  td : TypeDesc
  len : ∀ l, (lc l).length = z
  one : ∀ l, (lc l).all (·.oneCell') = true
  inf : (Try.prog.info? tE).map (fun i => (i.zero, i.size, i.bytes)) = some (some zc, z + 2, bts)
  zl : zc.cells.size = z + 2
  cap : Nat
  hc1 : 1 ≤ cap
  hc2 : cap ≤ 17592186044415
  hcb : cap * bts ≤ 140737488355328
  hz : z ≤ 64
  ud : Try.prog.underlying tE = some td
  row : td.isRow = true
  ul : Try.prog.underlying tS = some (.slice tE)
  el : Try.prog.elem tS = tE
variable {α : Type}
def enc0 (L : Lab0 α) (e : Ent α) : List Value := Value.int .i64 e.1 :: Value.int .i64 e.2.1 :: L.lc e.2.2
def encA0 (L : Lab0 α) (e : Ent α) : Value := .agg (enc0 L e).toArray
theorem enc_len0 (L : Lab0 α) (e : Ent α) : (enc0 L e).length = L.z + 2 := by simp [enc0, L.len]
theorem enc_one0 (L : Lab0 α) (e : Ent α) : (enc0 L e).all (·.oneCell') = true := by
  have := L.one e.2.2
  simp only [enc0, List.all_cons, this]; rfl
theorem lab_size0 (L : Lab0 α) : (Try.prog.info? L.tE).map (·.size) = some (L.z + 2) := by
  obtain ⟨i, hi, _, hs, _⟩ := info_parts L.inf
  simp [hi, hs]
theorem lab_ul0 (L : Lab0 α) : Try.prog.underlying L.tS = some (.slice (Try.prog.elem L.tS)) := by rw [L.el]; exact L.ul
theorem flat_len0 (L : Lab0 α) (es : List (Ent α)) : (es.flatMap (enc0 L)).length = es.length * (L.z + 2) := by
  induction es with
  | nil => simp
  | cons e es ih => simp [List.flatMap_cons, ih, enc_len0, Nat.succ_mul]; omega
theorem flat_at0 (L : Lab0 α) : ∀ (es : List (Ent α)) {j : Nat} (hj : j < es.length) {c : Nat}, c < L.z + 2 → (es.flatMap (enc0 L))[j * (L.z + 2) + c]? = (enc0 L es[j])[c]?
  | [], j, hj, _, _ => by simp at hj
  | e :: es, 0, _, c, hc => by rw [List.flatMap_cons, List.getElem?_append_left (by rw [enc_len0]; omega)]; simp
  | e :: es, j + 1, hj, c, hc => by
    rw [List.flatMap_cons, List.getElem?_append_right (by rw [enc_len0, Nat.succ_mul]; omega), enc_len0, show (j + 1) * (L.z + 2) + c - (L.z + 2) = j * (L.z + 2) + c from by rw [Nat.succ_mul]; omega]
    simpa using flat_at0 L es (j := j) (by simpa using hj) hc
def OwnE0 (L : Lab0 α) (v : Value) (es : List (Ent α)) (w : World) (S : Nat → Prop) : Prop := w.ownsRow 0 L.tE (L.z + 2) v es.length (es.flatMap (enc0 L)) ∧ es.length ≤ L.cap ∧ ∀ q, v.ownBlock = some q → S q
theorem ownE_loc0 (L : Lab0 α) (v : Value) (es : List (Ent α)) : Loc (OwnE0 L v es) where
  keep hs ha h := ⟨own_agree h.1 fun q hq e => ha q hq (h.2.2 q e), h.2.1, fun q hq => hs q (h.1.lt q hq).2 (h.2.2 q hq)⟩
def ownEI0 (L : Lab0 α) (v : Value) (es : List (Ent α)) : Itm := ⟨_, ownE_loc0 L v es⟩
def RdE0 (L : Lab0 α) (w : World) (v : Value) (es : List (Ent α)) : Prop :=
  ∃ (a : Option Addr) (cap : Nat), v = .slice a es.length cap ∧ es.length ≤ L.cap ∧
    (0 < es.length → ∃ b off, a = some ⟨b, off, none⟩ ∧ b < w.heap.size ∧ ∀ j (hj : j < es.length), w.rangeAt b (off + j * (L.z + 2)) (enc0 L es[j]))
theorem OwnE0.rd {L : Lab0 α} {w : World} {S : Nat → Prop} {v : Value} {es : List (Ent α)} (h : OwnE0 L v es w S) : RdE0 L w v es := by
  obtain ⟨h1, h2, h3⟩ := h
  rcases h1.2 with ⟨hv, hn⟩ | ⟨g, cap, cur, hv, _, hg, _⟩
  · exact ⟨none, 0, by rw [hv, hn], h2, fun h => by omega⟩
  refine ⟨some ⟨g, 0, none⟩, cap, hv, h2, fun _ => ⟨g, 0, rfl, (Array.getElem?_eq_some_iff.1 hg).1, fun j hj c u hu => ?_⟩⟩
  have hc : c < L.z + 2 := by
    have := (List.getElem?_eq_some_iff.1 hu).1
    rwa [enc_len0] at this
  have hf := flat_at0 L es hj hc
  rw [hu] at hf
  have hlt := (List.getElem?_eq_some_iff.1 hf).1
  rw [Nat.zero_add]
  subst hv
  have := h1.cells (g := g) rfl (j * (L.z + 2) + c) u hf
  rw [Addr.add_mid, Nat.zero_add] at this
  exact this
theorem ownE_form0 {L : Lab0 α} {w : World} {S : Nat → Prop} {v : Value} {es : List (Ent α)} (h : OwnE0 L v es w S) : ∃ a cap, v = .slice a es.length cap := let ⟨a, cap, hv, _⟩ := h.rd; ⟨a, cap, hv⟩
@[irreducible] def atE0 [Inhabited α] (es : List (Ent α)) (i : Int) : Ent α := es.getD i.toNat default
def eltE0 (z : Nat) (v : Value) (i : Int) : Value := match v with | .slice (some a) _ _ => .pointer (some ⟨a.block, a.off + i.toNat * z, none⟩) | _ => .pointer none
section
variable {w0 : World} {is : List Itm} {ops : Array Oper} {Q : Exit → Act → World → Prop} {o : Oper} {rest : List Oper} {N : Frm} {e : Env} {v : Value} {d : Nat} {K : Act → World → Prop}
theorem mem_ownE0 {L : Lab0 α} {w : World} {n : Nat} {es : List (Ent α)} (M : Mem w0 w is) (h : is[n]? = some (ownEI0 L v es)) : RdE0 L w v es := by
  obtain ⟨S, _, hb⟩ := mem_get M h
  exact OwnE0.rd (S := S) hb
theorem lenV_E0 {L : Lab0 α} {w : World} {es : List (Ent α)} (h : RdE0 L w v es) : LenV v es.length := let ⟨a, cap, hv, _⟩ := h; ⟨a, cap, hv⟩
theorem lenA_E0 {L : Lab0 α} {w : World} {es : List (Ent α)} (h : RdE0 L w v es) : LenA v es.length := let ⟨a, cap, hv, _, hc⟩ := h; ⟨a, cap, hv, fun h0 => let ⟨b, off, ha, _⟩ := hc h0; ⟨b, off, ha⟩⟩
theorem qt_indexE0 (L : Lab0 α) {x y : Operand} {t : TypeId} {n : Nat} {i : Int} (hop : o.op = .indexAddr t x y) (hx : evo e x = some (v)) (hy : evo e y = some (.int .i64 i)) (ht : t = L.tS)
    (hl : ∀ w, Mem w0 w is → LenA v n) (h0 : 0 ≤ i) (h1 : i < (n : Int)) : QV w0 is o e (eltE0 (L.z + 2) v i) :=
  fun w ac M F => by
    subst ht
    have hx := F _ _ hx; have hy := F _ _ hy
    obtain ⟨a, cap, rfl, ha⟩ := hl w M
    obtain ⟨b, off, rfl⟩ := ha (by omega)
    have hI := info_parts L.inf
    obtain ⟨ii, hi, hz, hs, hb⟩ := hI
    simp only [execOp, hop, hx, hy, run_indexAt_slice _ _ _ _ _ _ _ (lab_ul0 L), L.el, h0, h1, and_self, if_true, sizeOf, typeInfo, hi, hs, eltE0, Sem.run_bind, Sem.run_pure, Result.andThen_ok, run_program, Addr.add_mid]
theorem qt_loadE0 [Inhabited α] (L : Lab0 α) {x : Operand} {t : TypeId} {u : Value} {es : List (Ent α)} {i : Int} (hop : o.op = .load t x) (hx : evo e x = some (eltE0 (L.z + 2) u i)) (ht : t = L.tE)
    (hr : ∀ w, Mem w0 w is → RdE0 L w u es) (h0 : 0 ≤ i) (h1 : i < es.length) : QV w0 is o e (encA0 L (atE0 es i)) :=
  fun w ac M F => by
    subst ht
    have hx := F _ _ hx
    obtain ⟨a, cap, rfl, _, hc⟩ := hr w M
    obtain ⟨b, off, rfl, _, hcell⟩ := hc (by omega)
    have hlt : i.toNat < es.length := by omega
    have hcc := hcell i.toNat hlt
    have he : atE0 es i = es[i.toNat] := by simp [atE0, List.getD_eq_getElem?_getD, List.getElem?_eq_getElem hlt]
    rw [← he] at hcc
    simp [execOp, hop, hx, eltE0, encA0, run_loadAt_mid w b (off + i.toNat * (L.z + 2)) L.tE (enc0 L (atE0 es i)) L.td hcc L.ud L.row (by rw [lab_size0, enc_len0])]
theorem go_sliceE10 (L : Lab0 α) {t : TypeId} {x : Operand} {a b : Int} {l : α} (hd : o.dst = some d) (hN : Nat.blt d N = true) (hop : o.op = .buildSlice t 1 #[(0, x)]) (hx : evo e x = some (.agg (Value.int .i64 a :: Value.int .i64 b :: L.lc l).toArray)) (ht : t = L.tS)
    (hk : ∀ B : Nat, GK w0 (is ++ [ownEI0 L (.slice (some ⟨B, 0, none⟩) 1 1) [(a, b, l)]]) N K ((d, .slice (some ⟨B, 0, none⟩) 1 1) :: e)) : GO w0 is N o e Q K := by
  subst ht
  obtain ⟨en, hen⟩ : ∃ en : Ent α, en = (a, b, l) := ⟨_, rfl⟩
  have hx : evo e x = some (encA0 L en) := by rw [hen]; exact hx
  rw [← hen] at hk
  intro w ac M F
  have hO : OwnE0 L (.slice (some ⟨w.heap.size, 0, none⟩) 1 1) [en] (w.alloc (.cells (enc0 L en).toArray L.tE)) (fun k => w.heap.size ≤ k) := by
    refine ⟨⟨by simp [enc_len0], .inr ⟨w.heap.size, 1, (enc0 L en).toArray, rfl, Nat.zero_le _, heap_alloc_new w _, Nat.le_refl _, by unfold maxLen; omega, by simp [enc_len0], ?_⟩⟩, L.hc1, fun q hq => by simp [Value.ownBlock] at hq; omega⟩
    simp [enc_len0]
    exact List.take_of_length_le (by simp [enc_len0])
  refine go_val (v := .slice (some ⟨w.heap.size, 0, none⟩) 1 1) (w' := w.alloc (.cells (enc0 L en).toArray L.tE)) hd hN F ?_ fun ac F => hk _ _ ac (mem_new M (below_alloc w _) hO) F
  intro ρ F; have hx := F _ _ hx
  obtain ⟨i, hi, hz, hs, hb⟩ := info_parts L.inf
  have hcl : (encA0 L en).cells = (enc0 L en).toArray := rfl
  have hsz : (enc0 L en).toArray.size = L.z + 2 := by simp [enc_len0]
  have h24 : ¬ 16777216 < L.z + 2 := by have := L.hz; omega
  have hcs : (encA0 L en).cells.size = L.z + 2 := by rw [hcl, hsz]
  have hfold := fold_set (enc0 L en) 0 (Array.map (fun x => L.zc.cells[x % L.zc.cells.size]!) (Array.range (L.z + 2))) (by simp [enc_len0])
  simp [execOp, hop, hx, Instr.buildSlice, run_underlying L.ul, sizeOf, typeInfo, hi, hs, Instr.fill, newRow, zeroValue, hz, Sem.run_bind, range1, h24]
  rw [if_neg (by rw [hcs]; omega), hcl]
  simp
  rw [hfold]; simp
theorem go_appendE0 (L : Lab0 α) {s x : Operand} {t : TypeId} {n m : Nat} {es : List (Ent α)} {u : Value} {en : Ent α} (hd : o.dst = some d) (hN : Nat.blt d N = true) (hop : o.op = .call { callee := .builtin .append, args := #[s, x], argTypes := #[t, t] }) (ht : t = L.tS)
    (hs : evo e s = some v) (hx : evo e x = some u) (hi : is[n]? = some (ownEI0 L v es)) (hj : is[m]? = some (ownEI0 L u [en])) (hn : es.length + 1 ≤ L.cap)
    (hk : ∀ a cap, GK w0 (is.set n (ownEI0 L (.slice a (es ++ [en]).length cap) (es ++ [en]))) N K ((d, .slice a (es ++ [en]).length cap) :: e)) : GO w0 is N o e Q K := by
  subst ht
  intro w ac M F
  obtain ⟨ad, cap, hu, _, hc⟩ := mem_ownE0 M hj
  obtain ⟨b, off, ha, _, hcell⟩ := hc (by simp)
  subst ha
  have hv : u = .slice (some ⟨b, off, none⟩) 1 cap := hu
  have h0 := hcell 0 (by simp)
  simp only [Nat.zero_mul, Nat.add_zero, List.getElem_cons_zero] at h0
  obtain ⟨S, hS, hp, hset⟩ := mem_set M hi
  have hp : OwnE0 L v es w S := hp
  obtain ⟨i, hi', hz, hs1, hb⟩ := info_parts L.inf
  have hc2 := L.hc2
  have hby : (es.length + 1) * L.bts ≤ 140737488355328 := Nat.le_trans (Nat.mul_le_mul_right _ hn) L.hcb
  obtain ⟨v', w', hr, hown, hgrow, _, hat⟩ := run_append_own_at (P := Try.prog) w 0 L.tS o.type L.tE i L.zc (L.z + 2) L.bts L.ul hi' hz hs1 hb L.zl (by omega) v es.length (es.flatMap (enc0 L)) hp.1 ⟨b, off, none⟩ 1 cap (enc0 L en) (by rw [enc_len0]; omega) (fun j z hz => by rw [Addr.add_mid]; exact h0 j z hz) (fun z hz => List.all_eq_true.1 (enc_one0 L en) z hz) (by unfold maxLen; omega) hby (Nat.zero_le _)
  have hO : OwnE0 L v' (es ++ [en]) w' (fun k => S k ∨ w.heap.size ≤ k) := by
    refine ⟨by simpa using hown, by simpa using hn, fun q hq => ?_⟩
    rcases hat with hat | hat
    · exact .inl (hp.2.2 q (by rw [← hat]; exact hq))
    rw [hat] at hq
    simp only [Option.some.injEq] at hq
    exact .inr (by omega)
  obtain ⟨va, vc, rfl⟩ := ownE_form0 hO
  refine go_val (v := .slice va (es ++ [en]).length vc) (w' := w') hd hN F ?_ fun ac F => hk va vc w' ac (hset w' (ownEI0 L (.slice va (es ++ [en]).length vc) (es ++ [en])) (frS_grown hgrow hp.2.2) hO) F
  intro ρ F; have hs := F _ _ hs; have hx := F _ _ hx
  simp only [execOp, hop, resolve, invoke, builtin, Sem.run_bind, Sem.run_pure, Result.andThen_ok, List.map_toArray, List.map_cons, List.map_nil, hs, hx, hv]
  rw [hr]
  rfl
end
end Go.Proofs.Ytbiplocgenppoaa
namespace Go.Proofs.Ytbiplocgenppoaa
open _root_.Go.Proofs.Try
open Go.RowKit
abbrev Hd := Option Addr × Nat × Nat
def hdV (h : Hd) : Value := .slice h.1 h.2.1 h.2.2
abbrev Edg := Hd × List Int
noncomputable def lab_path : Lab0 Edg where
  z := 1
  lc l := [hdV l.1]
  tE := 127
  tS := 124
  bts := 40
  zc := .agg #[.int .i64 0, .int .i64 0, .slice none 0 0]
  td := match Try.prog.underlying 127 with | some t => t | none => .bool
  len _ := rfl
  one _ := rfl
  inf := by kernel_rfl
  zl := rfl
  cap := 3000000000000
  hc1 := by decide
  hc2 := by decide
  hcb := by decide
  hz := by decide
  ud := by kernel_rfl
  row := by kernel_rfl
  ul := by kernel_rfl
  el := by kernel_rfl
def poolI (pl : List Edg) : Itm := tailI (pl.map fun p => own1I (hdV p.1) p.2)
section
variable {w0 : World} {is : List Itm} {ops : Array Oper} {Q : Exit → Act → World → Prop} {o : Oper} {rest : List Oper} {N : Frm} {n m : Nat} {e : Env} {v : Value} {d : Nat} {K : Act → World → Prop}
theorem star_in {js : List Itm} {i : Itm} {w : World} {S : Nat → Prop} (h : Star js w S) (hi : i ∈ js) : ∃ S1 : Nat → Prop, (∀ k, S1 k → S k) ∧ i.p w S1 := by
  obtain ⟨k, hk, rfl⟩ := List.getElem_of_mem hi
  exact star_get js (List.getElem?_eq_getElem hk) h
theorem mem_pool {w : World} {pl : List Edg} {l : Edg} (M : Mem w0 w is) (h : is[n]? = some (poolI pl)) (hl : l ∈ pl) : Rd w (hdV l.1) l.2 := by
  obtain ⟨S, _, hb⟩ := mem_get M h
  have hs : Star (pl.map fun p => own1I (hdV p.1) p.2) w S := hb
  obtain ⟨S1, _, h1⟩ := star_in hs (List.mem_map.2 ⟨l, hl, rfl⟩)
  exact Own1.rd h1
theorem mem_pool0 {w : World} (M : Mem w0 w is) : Mem w0 w (is ++ [poolI []]) := mem_new M (Below.refl _ _) trivial
theorem gc_pool0 {c : Code} (hk : GC w0 (is ++ [poolI []]) N c Q e) : GC w0 is N c Q e := fun w a M F => hk w a (mem_pool0 M) F
theorem star_tail_snoc : ∀ (L : List Itm) {i : Itm} {w : World} {S1 S2 S : Nat → Prop}, (∀ k, S1 k → S k) → (∀ k, S2 k → S k) → (∀ k, S1 k → ¬ S2 k) → Star L w S1 → i.p w S2 → Star (L ++ [i]) w S :=
  fun L i w S1 S2 S h1 h2 hd hs hi => star_app L [i] h1 h2 hd hs ⟨S2, fun _ => False, fun _ h => h, fun _ h => h.elim, fun _ _ h => h, hi, trivial⟩
theorem mem_pool_add {w : World} {pl : List Edg} {m' : Nat} {l : Edg} (M : Mem w0 w is) (h : is[n]? = some (poolI pl)) (hj : (is.eraseIdx n)[m']? = some (own1I (hdV l.1) l.2)) (hE : (is.set m trivI).eraseIdx n = (is.eraseIdx n).set m' trivI) : Mem w0 w ((is.set m trivI).set n (poolI (pl ++ [l]))) := by
  obtain ⟨S1, S2, k1, k2, kd, hp, hq, hset⟩ := star_two' M.2 h hj hE
  have hp' : Star (pl.map fun p => own1I (hdV p.1) p.2) w S1 := hp
  refine ⟨M.1, ?_⟩
  have hs := hset w (poolI (pl ++ [l])) (frS_new (Below.refl _ _)) (show Star ((pl ++ [l]).map fun p => own1I (hdV p.1) p.2) w _ by
    rw [List.map_append]
    exact star_tail_snoc _ (fun k h => .inl (.inl h)) (fun k h => .inl (.inr h)) kd hp' hq)
  exact star_keep _ (fun k _ hk => hk.elim id fun h => Nat.le_trans M.1.size h) agree_refl hs
theorem gk_pool_add {pl : List Edg} {m' : Nat} {l : Edg} (h : is[n]? = some (poolI pl)) (hj : (is.eraseIdx n)[m']? = some (own1I (hdV l.1) l.2)) (hE : (is.set m trivI).eraseIdx n = (is.eraseIdx n).set m' trivI) (hk : GK w0 ((is.set m trivI).set n (poolI (pl ++ [l]))) N K e) : GK w0 is N K e :=
  fun w a M F => hk w a (mem_pool_add M h hj hE) F
def eltF (z : Nat) (v : Value) (i : Int) (off : Nat) : Value := match v with | .slice (some a) _ _ => .pointer (some ⟨a.block, a.off + i.toNat * z + off, none⟩) | _ => .pointer none
theorem elt0_form {v : Value} {es : List (Ent Edg)} {w : World} {i : Int} (h : RdE0 lab_path w v es) (h0 : 0 ≤ i) (h1 : i < es.length) : ∃ b off, eltE0 3 v i = .pointer (some ⟨b, off + i.toNat * 3, none⟩) ∧ (∀ o2, eltF 3 v i o2 = .pointer (some ⟨b, off + i.toNat * 3 + o2, none⟩)) ∧ w.rangeAt b (off + i.toNat * 3) (enc0 lab_path (atE0 es i)) := by
  obtain ⟨a, cap, rfl, _, hc⟩ := h
  obtain ⟨b, off, rfl, _, hcell⟩ := hc (by omega)
  have hlt : i.toNat < es.length := by omega
  have he : atE0 es i = es[i.toNat] := by simp [atE0, List.getD_eq_getElem?_getD, List.getElem?_eq_getElem hlt]
  refine ⟨b, off, rfl, fun _ => rfl, ?_⟩
  rw [he]; exact hcell i.toNat hlt
theorem qt_loadF {x : Operand} {t : TypeId} {u y : Value} {es : List (Ent Edg)} {i : Int} {off : Nat} {td : TypeDesc} (hop : o.op = .load t x) (hx : evo e x = some (eltF 3 u i off)) (ht : Try.prog.underlying t = some td) (hd : aggT td = false)
    (hr : ∀ w, Mem w0 w is → RdE0 lab_path w u es) (h0 : 0 ≤ i) (h1 : i < es.length) (hy : (enc0 lab_path (atE0 es i))[off]? = some y) : QV w0 is o e y :=
  fun w ac M F => by
    have hx := F _ _ hx
    obtain ⟨b, of_, _, e2, hc⟩ := elt0_form (hr w M) h0 h1
    rw [e2] at hx
    have hcell := hc off y hy
    simp [execOp, hop, hx, run_load1 ht hd hcell]
theorem take_put {α : Type} (l us : List α) (j N : Nat) (hj : j + us.length ≤ N) {z : Nat} (hz : us.length = z) : List.take N (l.take j ++ us ++ l.drop (j + z)) = (l.take N).take j ++ us ++ (l.take N).drop (j + z) := by
  subst hz
  by_cases hl : j ≤ l.length
  · have h1 : (l.take j ++ us).length = j + us.length := by simp [List.length_take]; omega
    rw [List.take_append, List.take_of_length_le (by omega), h1, List.drop_take, List.take_take, Nat.min_eq_left (by omega)]
  have hd : ∀ k, j ≤ k → l.drop k = [] := fun k hk => List.drop_eq_nil_of_le (by omega)
  rw [List.take_take, Nat.min_eq_left (by omega), hd _ (by omega), List.drop_take, hd _ (by omega), List.take_nil, List.append_nil, List.take_of_length_le]
  simp [List.length_take]; omega
theorem flat_set0 {α : Type} (L : Lab0 α) (en : Ent α) : ∀ (es : List (Ent α)) {j : Nat}, j < es.length → (es.set j en).flatMap (enc0 L) = (es.flatMap (enc0 L)).take (j * (L.z + 2)) ++ enc0 L en ++ (es.flatMap (enc0 L)).drop (j * (L.z + 2) + (L.z + 2))
  | [], j, hj => by simp at hj
  | e :: es, 0, _ => by
    have h := enc_len0 L e
    simp only [List.set_cons_zero, List.flatMap_cons, Nat.zero_mul, List.take_zero, List.nil_append, Nat.zero_add]
    rw [List.drop_append_of_le_length (by omega), List.drop_eq_nil_of_le (by omega), List.nil_append]
  | e :: es, j + 1, hj => by
    have h := enc_len0 L e
    have ih := flat_set0 L en es (j := j) (by simpa using hj)
    have e1 : (j + 1) * (L.z + 2) = (enc0 L e).length + j * (L.z + 2) := by rw [Nat.succ_mul, h]; omega
    have e2 : (j + 1) * (L.z + 2) + (L.z + 2) = (enc0 L e).length + (j * (L.z + 2) + (L.z + 2)) := by rw [e1]; omega
    rw [List.set_cons_succ, List.flatMap_cons, ih, List.flatMap_cons, e2, e1, List.take_length_add_append, List.drop_length_add_append]
    simp only [List.append_assoc]
theorem go_storeE0 {x y : Operand} {t : TypeId} {u : Value} {es : List (Ent Edg)} {i : Int} {en : Ent Edg} (hd : o.dst = none) (hop : o.op = .store t x y) (hx : evo e x = some (eltE0 3 u i)) (hy : evo e y = some (encA0 lab_path en)) (ht : t = 127)
    (hi : is[n]? = some (ownEI0 lab_path u es)) (h0 : 0 ≤ i) (h1 : i < es.length) (hk : GK w0 (is.set n (ownEI0 lab_path u (es.set i.toNat en))) N K e) : GO w0 is N o e Q K := by
  subst ht
  intro w ac M F
  obtain ⟨S, hS, hp, hset⟩ := mem_set M hi
  have hp : OwnE0 lab_path u es w S := hp
  obtain ⟨hown, hcap, hS2⟩ := hp
  have hlt : i.toNat < es.length := by omega
  rcases hown.2 with ⟨_, hn⟩ | ⟨g, cap, cur, rfl, hb, hg, hncap, hmax, hsz, htk⟩
  · omega
  have hfl : (es.flatMap (enc0 lab_path)).length = es.length * 3 := flat_len0 lab_path es
  have hcur : es.length * 3 ≤ cur.size := by rw [hsz]; exact Nat.mul_le_mul_right 3 hncap
  have hen3 : (enc0 lab_path en).length = 3 := enc_len0 lab_path en
  have hroom : i.toNat * 3 + 3 ≤ cur.size := by omega
  have hr := run_storeCells_at (P := Try.prog) g (i.toNat * 3) 127 (enc0 lab_path en) 0 cur w hg (by rw [hen3]; omega) (fun v hv => List.all_eq_true.1 (enc_one0 lab_path en) v hv)
  simp only [Nat.add_zero] at hr
  have htk : cur.toList.take (es.length * 3) = es.flatMap (enc0 lab_path) := htk
  have hown2 : OwnE0 lab_path (.slice (some ⟨g, 0, none⟩) es.length cap) (es.set i.toNat en) (w.setRow g (cur.toList.take (i.toNat * 3) ++ enc0 lab_path en ++ cur.toList.drop (i.toNat * 3 + (enc0 lab_path en).length)).toArray) S := by
    refine ⟨⟨by rw [flat_len0, List.length_set], .inr ⟨g, cap, _, by rw [List.length_set], hb, setRow_heap w g cur _ _ (0, 0) hg, by rw [List.length_set]; exact hncap, hmax, ?_, ?_⟩⟩, by rw [List.length_set]; exact hcap, hS2⟩
    · rw [hen3, ← hsz]
      simp only [List.size_toArray, List.length_append, List.length_take, List.length_drop, Array.length_toList, hen3]
      omega
    rw [hen3, List.length_set]
    show List.take (es.length * 3) _ = _
    rw [take_put (cur.toList) _ _ _ (by omega) (by rw [hen3]), htk, flat_set0 lab_path en es hlt]
    show _ = List.take (i.toNat * 3) _ ++ _ ++ List.drop (i.toNat * 3 + 3) _
    rfl
  have hown3 : (ownEI0 lab_path (.slice (some ⟨g, 0, none⟩) es.length cap) (es.set i.toNat en)).p (w.setRow g (cur.toList.take (i.toNat * 3) ++ enc0 lab_path en ++ cur.toList.drop (i.toNat * 3 + (enc0 lab_path en).length)).toArray) (fun k => S k ∨ w.heap.size ≤ k) :=
    ⟨hown2.1, hown2.2.1, fun q hq => .inl (hown2.2.2 q hq)⟩
  refine go_skip (w' := w.setRow g _) hd F ?_ fun a F => hk _ a (hset _ _ ⟨rfl, rfl, rfl, by simp, fun k hk hr => setRow_other w g k _ (fun e => hr (by rw [e]; exact hS2 g rfl))⟩ hown3) F
  intro ρ F; have hx := F _ _ hx; have hy := F _ _ hy
  have hsi := lab_size0 lab_path
  cases hq : Try.prog.info? 127 with
  | none => rw [show lab_path.tE = 127 from rfl, hq] at hsi; simp at hsi
  | some ii =>
    rw [show lab_path.tE = 127 from rfl, hq] at hsi
    have hsz2 : ii.size = 3 := by simpa [show lab_path.z + 2 = 3 from rfl] using hsi
    simp [execOp, hop, hx, hy, eltE0, encA0, Instr.storeAt, Instr.sureAddr, storeVar, sizeOf, typeInfo, hq, Value.cells, hen3, hsz2, hr, Sem.run_bind]
theorem atE0_mem {es : List (Ent Edg)} {i : Int} (h0 : 0 ≤ i) (h1 : i < es.length) : atE0 es i ∈ es := by
  have hlt : i.toNat < es.length := by omega
  have he : atE0 es i = es[i.toNat] := by simp [atE0, List.getD_eq_getElem?_getD, List.getElem?_eq_getElem hlt]
  rw [he]; exact List.getElem_mem hlt
theorem qt_indexP {x y : Operand} {t : TypeId} {n : Nat} {i : Int} (hop : o.op = .indexAddr t x y) (hx : evo e x = some (v)) (hy : evo e y = some (.int .i64 i)) (ht : t = 124)
    (hl : ∀ w, Mem w0 w is → LenA v n) (h0 : 0 ≤ i) (h1 : i < (n : Int)) : QV w0 is o e (eltE0 3 v i) := qt_indexE0 lab_path hop hx hy ht hl h0 h1
theorem qt_loadPa {x : Operand} {t : TypeId} {u : Value} {es : List (Ent Edg)} {i : Int} (hop : o.op = .load t x) (hx : evo e x = some (eltE0 3 u i)) (ht : t = 127)
    (hr : ∀ w, Mem w0 w is → RdE0 lab_path w u es) (h0 : 0 ≤ i) (h1 : i < es.length) : QV w0 is o e (.agg #[.int .i64 (atE0 es i).1, .int .i64 (atE0 es i).2.1, hdV (atE0 es i).2.2.1]) := qt_loadE0 lab_path hop hx ht hr h0 h1
theorem qt_loadF0 {x : Operand} {t : TypeId} {u : Value} {es : List (Ent Edg)} {i : Int} {td : TypeDesc} (hop : o.op = .load t x) (hx : evo e x = some (eltF 3 u i 0)) (ht : Try.prog.underlying t = some td) (hd : aggT td = false)
    (hr : ∀ w, Mem w0 w is → RdE0 lab_path w u es) (h0 : 0 ≤ i) (h1 : i < es.length) : QV w0 is o e (.int .i64 (atE0 es i).1) := qt_loadF hop hx ht hd hr h0 h1 rfl
theorem qt_loadF1 {x : Operand} {t : TypeId} {u : Value} {es : List (Ent Edg)} {i : Int} {td : TypeDesc} (hop : o.op = .load t x) (hx : evo e x = some (eltF 3 u i 1)) (ht : Try.prog.underlying t = some td) (hd : aggT td = false)
    (hr : ∀ w, Mem w0 w is → RdE0 lab_path w u es) (h0 : 0 ≤ i) (h1 : i < es.length) : QV w0 is o e (.int .i64 (atE0 es i).2.1) := qt_loadF hop hx ht hd hr h0 h1 rfl
theorem qt_loadF2 {x : Operand} {t : TypeId} {u : Value} {es : List (Ent Edg)} {i : Int} {td : TypeDesc} (hop : o.op = .load t x) (hx : evo e x = some (eltF 3 u i 2)) (ht : Try.prog.underlying t = some td) (hd : aggT td = false)
    (hr : ∀ w, Mem w0 w is → RdE0 lab_path w u es) (h0 : 0 ≤ i) (h1 : i < es.length) : QV w0 is o e (hdV (atE0 es i).2.2.1) := qt_loadF hop hx ht hd hr h0 h1 rfl
theorem go_sliceP0 {t : TypeId} (hd : o.dst = some d) (hN : Nat.blt d N = true) (hop : o.op = .buildSlice t 0 #[]) (ht : t = 124)
    (hk : ∀ B : Nat, GK w0 (is ++ [ownEI0 lab_path (.slice (some ⟨B, 0, none⟩) 0 0) []]) N K ((d, .slice (some ⟨B, 0, none⟩) 0 0) :: e)) : GO w0 is N o e Q K := by
  subst ht
  intro w ac M F
  have hO : OwnE0 lab_path (.slice (some ⟨w.heap.size, 0, none⟩) 0 0) [] (w.alloc (.cells #[] 127)) (fun k => w.heap.size ≤ k) := by
    refine ⟨⟨by simp, .inr ⟨w.heap.size, 0, #[], rfl, Nat.zero_le _, heap_alloc_new w _, Nat.le_refl _, by unfold maxLen; omega, by simp, by simp⟩⟩, Nat.zero_le _, fun q hq => ?_⟩
    simp [Value.ownBlock] at hq; omega
  refine go_val (v := .slice (some ⟨w.heap.size, 0, none⟩) 0 0) (w' := w.alloc (.cells #[] 127)) hd hN F ?_ fun ac F => hk _ _ ac (mem_new M (below_alloc w _) hO) F
  intro ρ F
  obtain ⟨i, hi, hz, hs, hb⟩ := info_parts lab_path.inf
  have hul : Try.prog.underlying 124 = some (.slice 127) := lab_path.ul
  have hi : Try.prog.info? 127 = some i := hi
  simp [execOp, hop, Instr.buildSlice, run_underlying hul, sizeOf, typeInfo, hi, hs, Instr.fill, newRow, zeroValue, hz, Sem.run_bind, range0]
theorem go_sliceP1 {t : TypeId} {x : Operand} {a b : Int} {h1 : Option Addr} {h2 h3 : Nat} {xs : List Int} (hd : o.dst = some d) (hN : Nat.blt d N = true) (hop : o.op = .buildSlice t 1 #[(0, x)]) (hx : evo e x = some (.agg #[.int .i64 a, .int .i64 b, .slice h1 h2 h3])) (ht : t = 124)
    (_hm : is[m]? = some (own1I (.slice h1 h2 h3) xs))
    (hk : ∀ B : Nat, GK w0 (is ++ [ownEI0 lab_path (.slice (some ⟨B, 0, none⟩) 1 1) [(a, b, ((h1, h2, h3), xs))]]) N K ((d, .slice (some ⟨B, 0, none⟩) 1 1) :: e)) : GO w0 is N o e Q K :=
  go_sliceE10 lab_path hd hN hop (l := ((h1, h2, h3), xs)) hx ht hk
theorem go_storePe {x y : Operand} {t : TypeId} {u : Value} {es : List (Ent Edg)} {i : Int} (en : Ent Edg) (hd : o.dst = none) (hop : o.op = .store t x y) (hx : evo e x = some (eltE0 3 u i)) (hy : evo e y = some (.agg #[.int .i64 en.1, .int .i64 en.2.1, hdV en.2.2.1])) (ht : t = 127)
    (hi : is[n]? = some (ownEI0 lab_path u es)) (h0 : 0 ≤ i) (h1 : i < es.length) (hk : GK w0 (is.set n (ownEI0 lab_path u (es.set i.toNat en))) N K e) : GO w0 is N o e Q K :=
  go_storeE0 hd hop hx hy ht hi h0 h1 hk
theorem gc_pure {p : Prop} {c : Code} (h : ∀ w, Mem w0 w is → p) (hk : p → GC w0 is N c Q e) : GC w0 is N c Q e := fun w a M F => hk (h w M) w a M F
theorem qt_fieldPL {x : Operand} {s : TypeId} {u : Value} {k : Nat} {i : Int} {n2 off z : Nat} {fs : Array Field} {f : Field} (hop : o.op = .fieldAddr s x n2) (hx : evo e x = some (eltE0 3 u i)) (hs : Try.prog.underlying s = some (.struct fs)) (hf : fs[n2]? = some f)
    (hz : (Try.prog.info? f.type).map (·.size) = some (z + 1)) (ho : f.offset = off) (hl : ∀ w, Mem w0 w is → LenA u k) (h0 : 0 ≤ i) (h1 : i < (k : Int)) : QV w0 is o e (eltF 3 u i off) :=
  fun w ac M F => by
    have hx := F _ _ hx
    obtain ⟨a, cap, rfl, ha⟩ := hl w M
    obtain ⟨b, of_, rfl⟩ := ha (by omega)
    obtain ⟨inf, hi, hz'⟩ := Option.map_eq_some_iff.1 hz
    simp [execOp, hop, hx, eltE0, eltF, Instr.fieldAt, run_underlying hs, hf, Instr.sureAddr, fieldPlace, sizeOf, typeInfo, hi, hz', Addr.add_mid, ho]
theorem gk_poolA {pl : List Edg} {m' : Nat} {h1 : Option Addr} {h2 h3 : Nat} {xs : List Int} (h : is[n]? = some (poolI pl)) (hj : (is.eraseIdx n)[m']? = some (own1I (.slice h1 h2 h3) xs)) (hE : (is.set m trivI).eraseIdx n = (is.eraseIdx n).set m' trivI) (hk : GK w0 ((is.set m trivI).set n (poolI (pl ++ [((h1, h2, h3), xs)]))) N K e) : GK w0 is N K e :=
  gk_pool_add (l := ((h1, h2, h3), xs)) h hj hE hk
end
end Go.Proofs.Ytbiplocgenppoaa
