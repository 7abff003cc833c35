
/- Lists whose elements lie in one cell each, whatever these are: read, and of a call's own. -/
import Derived.Test.YtgkfampgofjkfaaRF
set_option linter.unusedSimpArgs false
set_option linter.unusedVariables false
set_option linter.unusedSectionVars false
namespace Go.Proofs.Ytgkfampgofjkfaa
open Go.RowKit
/-- How an element lies in its cell. -/
structure El (α : Type) where
  t : TypeId
  enc : α → Value
  d : α
  b : Nat
  info : (Try.prog.info? t).map (fun i => (i.zero, i.size, i.bytes)) = some (some (enc d), 1, b)
  b1 : 1 ≤ b
  b8 : b ≤ 8
  one : ∀ x, (enc x).oneCell' = true
  cells : ∀ x, (enc x).cells = #[enc x]
variable {α : Type}
theorem El.size (E : El α) : (Try.prog.info? E.t).map (fun i => i.size) = some 1 := by
  have := E.info
  cases h : Try.prog.info? E.t with
  | none => rw [h] at this; cases this
  | some i => rw [h] at this; simp only [Option.map_some, Option.some.injEq, Prod.mk.injEq] at this ⊢; exact this.2.1
def getE (E : El α) (xs : List α) (i : Int) : α := xs.getD i.toNat E.d
/-- A list that is read. -/
def RdG (E : El α) (w : World) (v : Value) (xs : List α) : Prop :=
  ∃ (a : Option Addr) (cap : Nat), v = .slice a xs.length cap ∧ xs.length ≤ 17592186044415 ∧
    ∀ j, j < xs.length → ∃ b off, a = some ⟨b, off, none⟩ ∧ b < w.heap.size ∧ ∀ i, i < xs.length → w.cell? ⟨b, off + i, none⟩ = some (E.enc (xs.getD i E.d))
theorem rdG_below {E : El α} {w w' : World} {v : Value} {xs : List α} (hb : Below w.heap.size w w') (h : RdG E w v xs) : RdG E w' v xs := by
  obtain ⟨a, cap, hv, hl, hc⟩ := h
  refine ⟨a, cap, hv, hl, fun j hj => ?_⟩
  obtain ⟨b, off, ha, hbs, hcell⟩ := hc j hj
  exact ⟨b, off, ha, Nat.lt_of_lt_of_le hbs hb.size, fun i hi => (hb.cell (p := ⟨b, off + i, none⟩) hbs).trans (hcell i hi)⟩
theorem rdG_form {E : El α} {w : World} {v : Value} {xs : List α} (h : RdG E w v xs) : ∃ a cap, v = .slice a xs.length cap := by
  obtain ⟨a, cap, hv, _⟩ := h; exact ⟨a, cap, hv⟩
theorem rdG_len {E : El α} {w : World} {v : Value} {xs : List α} (h : RdG E w v xs) : xs.length ≤ 17592186044415 := by obtain ⟨_, _, _, h, _⟩ := h; exact h
/-- A list of the call's own. -/
def OwnG (E : El α) (v : Value) (xs : List α) (w : World) (S : Nat → Prop) : Prop := (w.ownsRow 0 E.t 1 v xs.length (xs.map E.enc) ∧ xs.length ≤ 17592186044415) ∧ ∀ q, v.ownBlock = some q → S q
theorem ownG_loc (E : El α) (v : Value) (xs : List α) : Loc (OwnG E v xs) where
  keep hs ha h := ⟨⟨own_agree h.1.1 fun q hq e => ha q hq (h.2 q e), h.1.2⟩, fun q hq => hs q (h.1.1.lt q hq).2 (h.2 q hq)⟩
def ownGI (E : El α) (v : Value) (xs : List α) : Itm := ⟨_, ownG_loc E v xs⟩
theorem OwnG.rd {E : El α} {v : Value} {xs : List α} {w : World} {S : Nat → Prop} (h : OwnG E v xs w S) : RdG E w v xs := by
  obtain ⟨⟨⟨hlen, hor⟩, hl⟩, _⟩ := h
  rcases hor with ⟨hv, hn⟩ | ⟨g, cap, cur, hv, hb, hg, hnc, hcm, hcs, ht⟩
  · exact ⟨none, 0, by rw [hv, hn], hl, fun j hj => by omega⟩
  · refine ⟨some ⟨g, 0, none⟩, cap, hv, hl, fun j hj => ⟨g, 0, rfl, (Array.getElem?_eq_some_iff.1 hg).1, fun i hi => ?_⟩⟩
    have h1 : (xs.map E.enc)[i]? = some (E.enc (xs.getD i E.d)) := by
      simp [List.getD_eq_getElem?_getD, List.getElem?_eq_getElem hi]
    rw [← ht] at h1
    rw [cell_of_row w g (0 + i) cur _ (0, 0) hg]
    rw [List.getElem?_take] at h1
    split at h1
    · simpa using h1
    · cases h1
theorem ownG_form {E : El α} {v : Value} {xs : List α} {w : World} {S : Nat → Prop} (h : OwnG E v xs w S) : (v = .slice none 0 0 ∧ xs.length = 0) ∨ ∃ g cap, v = .slice (some ⟨g, 0, none⟩) xs.length cap := by
  rcases h.1.1.2 with ⟨hv, hn⟩ | ⟨g, cap, cur, hv, _⟩
  · exact .inl ⟨hv, hn⟩
  · exact .inr ⟨g, cap, hv⟩
section
variable {w0 : World} {is : List Itm} {ops : Array Oper} {Q : Exit → Act → World → Prop} {o : Oper} {rest : List Oper} {N : Frm} {e : Env} {v : Value} {d : Nat} {K : Act → World → Prop} {E : El α}
theorem mem_ownG {n : Nat} {xs : List α} (h : is[n]? = some (ownGI E v xs)) {w : World} (M : Mem w0 w is) : RdG E w v xs := by
  obtain ⟨S, _, hb⟩ := mem_get M h
  exact OwnG.rd (S := S) hb
theorem mem_rdG {w : World} {xs : List α} (M : Mem w0 w is) (h : RdG E w0 v xs) : RdG E w v xs := rdG_below M.1 h
theorem lenV_G {w : World} {xs : List α} (h : RdG E w v xs) : LenV v xs.length := rdG_form h
theorem lenA_G {w : World} {xs : List α} (h : RdG E w v xs) : LenA v xs.length := by
  obtain ⟨a, cap, hv, _, hc⟩ := h
  exact ⟨a, cap, hv, fun h0 => let ⟨b, off, ha, _⟩ := hc 0 h0; ⟨b, off, ha⟩⟩
theorem qt_loadG (E : El α) {x : Operand} {t : TypeId} {u : Value} {xs : List α} {i : Int} {td : TypeDesc} (hop : o.op = .load t x) (hx : evo e x = some (eltP u i)) (ht : Try.prog.underlying t = some td) (hd : aggT td = false)
    (hr : ∀ w, Mem w0 w is → RdG E w u xs) (h0 : 0 ≤ i) (h1 : i < xs.length) : QV w0 is o e (E.enc (getE E xs i)) :=
  fun w ac M F => by
    have hx := F _ _ hx
    obtain ⟨a, cap, hv, _, hc⟩ := hr w M
    obtain ⟨b, off, ha, hb, hcell⟩ := hc i.toNat (by omega)
    subst ha; subst hv
    have hc2 := hcell i.toNat (by omega)
    simp [execOp, hop, hx, eltP, run_load1 ht hd hc2, getE]
theorem go_storeG (E : El α) {t : TypeId} {x y : Operand} {n : Nat} {xs : List α} {z : α} {i : Int} (hd : o.dst = none) (hop : o.op = .store t x y) (hx : evo e x = some (eltP v i)) (hy : evo e y = some (E.enc z))
    (hs : (Try.prog.info? t).map (·.size) = some 1) (hi : is[n]? = some (ownGI E v xs)) (h0 : 0 ≤ i) (h1 : i < xs.length)
    (hk : GK w0 (is.set n (ownGI E v (xs.set i.toNat z))) N K e) : GO w0 is N o e Q K := by
  intro w ac M F
  obtain ⟨S, hS, hp, hset⟩ := mem_set M hi
  have hp' : OwnG E v xs w S := hp
  rcases ownG_form hp' with ⟨_, hn⟩ | ⟨g, cap, rfl⟩
  · omega
  have hcell : w.cell? ⟨g, i.toNat, none⟩ = some (E.enc (getE E xs i)) := by
    rw [hp'.1.1.cellAt i.toNat (by omega)]
    simp [getE, List.getD_eq_getElem?_getD, List.getElem?_eq_getElem (show i.toNat < xs.length by omega)]
  have hfz := hp'.1.1.frozenAt i.toNat
  have hst := hp'.1.1.stored i.toNat (E.enc z)
  have h3 : OwnG E (.slice (some ⟨g, 0, none⟩) xs.length cap) (xs.set i.toNat z) (w.setCell ⟨g, i.toNat, none⟩ (E.enc z)) (fun k => S k ∨ w.heap.size ≤ k) := by
    refine ⟨⟨?_, by simpa using hp'.1.2⟩, fun q hq => .inl (hp'.2 q hq)⟩
    have := hst.1
    rw [← List.map_set] at this
    simpa using this
  refine go_skip (w' := w.setCell ⟨g, i.toNat, none⟩ (E.enc z)) hd F ?_ fun ac F => hk _ ac (hset _ _ ⟨hst.2.os, hst.2.tape, hst.2.output, hst.2.size, fun q hq hs => hst.2.block q hq fun e => hs (by rw [Option.some.inj e]; exact hp'.2 g rfl)⟩ h3) F
  intro ρ F; have hx := F _ _ hx; have hy := F _ _ hy
  have he : eltP (.slice (some ⟨g, 0, none⟩) xs.length cap) i = .pointer (some ⟨g, i.toNat, none⟩) := by simp [eltP]
  simp [execOp, hop, hx, hy, he, run_store1 hs (E.one z) (E.cells z) hcell hfz]
theorem go_makeG (E : El α) {x y : Operand} {t : TypeId} {n : Nat} (hd : o.dst = some d) (hN : Nat.blt d N = true) (hop : o.op = .makeSlice t x y) (ht : Try.prog.underlying t = some (.slice E.t)) (hx : evo e x = some (.int .i64 (n : Int))) (hy : evo e y = some (.int .i64 (n : Int))) (hn : n ≤ 17592186044415)
    (hk : ∀ B : Nat, GK w0 (is ++ [ownGI E (.slice (some ⟨B, 0, none⟩) n n) (List.replicate n E.d)]) N K ((d, .slice (some ⟨B, 0, none⟩) n n) :: e)) : GO w0 is N o e Q K := by
  intro w ac M F
  obtain ⟨i, hi, hz, hs, hb⟩ := info_parts E.info
  have b8 := E.b8
  obtain ⟨w', hr, hown, hgrow⟩ := run_make_full (P := Try.prog) w w.heap.size t E.t i (E.enc E.d) 1 ht hi hz hs .i64 .i64 n (by rw [hb]; have h1 := Nat.mul_le_mul_right n b8; omega) (by unfold maxLen; omega) (Nat.le_refl _)
  have hone : (madeCells #[E.enc E.d] n).toList = (List.replicate n E.d).map E.enc := by rw [toList_madeCells_one]; simp
  have hs' : OwnG E (.slice (some ⟨w.heap.size, 0, none⟩) n n) (List.replicate n E.d) w' (fun k => w.heap.size ≤ k) := by
    simp only [E.cells, Nat.mul_one] at hown
    rw [hone] at hown
    refine ⟨⟨by simpa using own_base hown, by simpa using hn⟩, fun q hq => by simp [Value.ownBlock] at hq; omega⟩
  refine go_val (v := .slice (some ⟨w.heap.size, 0, none⟩) n n) (w' := w') hd hN F ?_ fun ac F => hk w.heap.size w' ac (mem_new M ((Below.refl _ _).grown hgrow (Nat.le_refl _) (by simp)) hs') F
  intro ρ F; have hx := F _ _ hx; have hy := F _ _ hy
  simp only [execOp, hop, hx, hy, Sem.run_bind, hr, Result.andThen_ok]
  rfl
theorem mem_nilG (E : El α) {w : World} (M : Mem w0 w is) : Mem w0 w (is ++ [ownGI E (.slice none 0 0) []]) :=
  mem_new M (Below.refl _ _) ⟨⟨World.ownsRow_nil w 0 _ 1, by simp⟩, fun q hq => by simp [Value.ownBlock] at hq⟩
theorem g_nilG (E : El α) (hk : G w0 (is ++ [ownGI E (.slice none 0 0) []]) N ops Q rest e) : G w0 is N ops Q rest e := fun w a M F => hk w a (mem_nilG E M) F
theorem gc_nilG (E : El α) {c : Code} (hk : GC w0 (is ++ [ownGI E (.slice none 0 0) []]) N c Q e) : GC w0 is N c Q e := fun w a M F => hk w a (mem_nilG E M) F
theorem mem_rowG (E : El α) {w : World} {xs : List α} (M : Mem w0 w is) (hl : xs.length ≤ 17592186044415) : Mem w0 (w.alloc (.cells (xs.map E.enc).toArray E.t)) (is ++ [ownGI E (.slice (some ⟨w.heap.size, 0, none⟩) xs.length xs.length) xs]) := by
  refine mem_new M (below_alloc w _) ⟨⟨?_, hl⟩, ?_⟩
  · refine ⟨by simp, .inr ⟨w.heap.size, xs.length, (xs.map E.enc).toArray, rfl, Nat.zero_le _, heap_alloc_new w _, Nat.le_refl _, ?_, by simp, ?_⟩⟩
    · unfold maxLen; omega
    · rw [List.take_of_length_le (by simp)]
  · intro q hq
    simp [Value.ownBlock] at hq
    omega
theorem go_sliceG0 (E : El α) {t : TypeId} (hd : o.dst = some d) (hN : Nat.blt d N = true) (hop : o.op = .buildSlice t 0 #[]) (ht : Try.prog.underlying t = some (.slice E.t))
    (hk : ∀ B : Nat, GK w0 (is ++ [ownGI E (.slice (some ⟨B, 0, none⟩) 0 0) []]) N K ((d, .slice (some ⟨B, 0, none⟩) 0 0) :: e)) : GO w0 is N o e Q K := by
  intro w ac M F
  obtain ⟨i, hi, hz, hs, hb⟩ := info_parts E.info
  refine go_val (v := .slice (some ⟨w.heap.size, 0, none⟩) 0 0) (w' := w.alloc (.cells #[] E.t)) hd hN F ?_ fun ac F => hk _ _ ac (mem_rowG E (xs := []) M (by simp)) F
  intro ρ F
  simp [execOp, hop, Instr.buildSlice, run_underlying ht, sizeOf, typeInfo, hi, Instr.fill, newRow, range0]
/-- 'append(s, x..)', s of the call's own, x whatever list that is not nil. -/
theorem go_appendG (E : El α) {s x : Operand} {t : TypeId} {n : Nat} {xs ys : List α} {ua : Option Addr} {un uc : Nat} (hd : o.dst = some d) (hN : Nat.blt d N = true) (hop : o.op = .call { callee := .builtin .append, args := #[s, x], argTypes := #[t, t] }) (ht : Try.prog.underlying t = some (.slice E.t))
    (hs : evo e s = some v) (hx : evo e x = some (.slice ua un uc)) (hi : is[n]? = some (ownGI E v xs)) (hj : ∀ w, Mem w0 w is → RdG E w (.slice ua un uc) ys) (hnn : isNilV (.slice ua un uc) = false) (hn : xs.length + ys.length ≤ 17592186044415)
    (hk : ∀ a cap, GK w0 (is.set n (ownGI E (.slice a (xs ++ ys).length cap) (xs ++ ys))) N K ((d, .slice a (xs ++ ys).length cap) :: e)) : GO w0 is N o e Q K := by
  intro w ac M F
  obtain ⟨ad, cap, hv, _, hc⟩ := hj w M
  simp only [Value.slice.injEq] at hv
  obtain ⟨rfl, rfl, rfl⟩ := hv
  have hbo : ∃ b off bl, ua = some ⟨b, off, bl⟩ ∧ (0 < ys.length → bl = none) := by
    cases ua with
    | none => simp [isNilV] at hnn
    | some q =>
      obtain ⟨b, off, bl⟩ := q
      refine ⟨b, off, bl, rfl, fun h0 => ?_⟩
      obtain ⟨b', off', ha, _⟩ := hc 0 h0
      simp only [Option.some.injEq, Addr.mk.injEq] at ha
      exact ha.2.2
  obtain ⟨b, off, bl, rfl, hbl⟩ := hbo
  obtain ⟨S, hS, hp, hset⟩ := mem_set M hi
  have hp : OwnG E v xs w S := hp
  obtain ⟨i, hi', hz, hs1, hb⟩ := info_parts E.info
  have b8 := E.b8; have b1 := E.b1
  obtain ⟨v', w', hr, hown, hgrow, _, hat⟩ := run_append_own_at (P := Try.prog) w 0 t o.type E.t i (E.enc E.d) 1 E.b ht hi' hz hs1 hb (by rw [E.cells]; rfl) (by omega) v xs.length (xs.map E.enc) hp.1.1 ⟨b, off, bl⟩ ys.length uc (ys.map E.enc) (by simp) (fun j u hu => by
    have hjl : j < ys.length := by
      have := (List.getElem?_eq_some_iff.1 hu).1
      simpa using this
    have hbl' := hbl (by omega)
    subst hbl'
    obtain ⟨b', off', ha, _, hcell⟩ := hc j hjl
    simp only [Option.some.injEq, Addr.mk.injEq] at ha
    obtain ⟨rfl, rfl, _⟩ := ha
    have := hcell j hjl
    simp only [List.getElem?_map, List.getElem?_eq_getElem hjl, Option.map_some, Option.some.injEq] at hu
    subst hu
    simp only [List.getD_eq_getElem?_getD, List.getElem?_eq_getElem hjl, Option.getD_some] at this
    have hadd : (⟨b, off, none⟩ : Addr).add j = ⟨b, off + j, none⟩ := by unfold Addr.add; split <;> simp_all
    rw [hadd]; exact this) (by intro u hu; obtain ⟨z, _, rfl⟩ := List.mem_map.1 hu; exact E.one z) (by unfold maxLen; omega) (by have := Nat.mul_le_mul_left (xs.length + ys.length) b8; omega) (Nat.zero_le _)
  have hsl : w'.ownsRow 0 E.t 1 v' (xs ++ ys).length ((xs ++ ys).map E.enc) ∧ (xs ++ ys).length ≤ 17592186044415 := ⟨by simpa using hown, by simpa using hn⟩
  obtain ⟨va, vc, rfl⟩ : ∃ va vc, v' = .slice va (xs ++ ys).length vc := by
    rcases hsl.1.2 with ⟨hv, hn⟩ | ⟨g, cap, cur, hv, _⟩
    · exact ⟨none, 0, by rw [hv, hn]⟩
    · exact ⟨_, cap, hv⟩
  refine go_val (v := .slice va (xs ++ ys).length vc) (w' := w') hd hN F ?_ fun ac F => hk va vc w' ac (hset w' (ownGI E (.slice va (xs ++ ys).length vc) (xs ++ ys)) (frS_grown hgrow hp.2) ⟨hsl, fun q hq => ?_⟩) F
  · intro ρ F; have hs := F _ _ hs; have hx := F _ _ hx
    simp only [execOp, hop, resolve, invoke, builtin, Sem.run_bind, Sem.run_pure, Result.andThen_ok, List.map_toArray, List.map_cons, List.map_nil, hs, hx]
    rw [hr]
    rfl
  · rcases hat with hat | hat
    · exact .inl (hp.2 q (by rw [← hat]; exact hq))
    · rw [hat] at hq
      simp only [Option.some.injEq] at hq
      exact .inr (by omega)
end
end Go.Proofs.Ytgkfampgofjkfaa
