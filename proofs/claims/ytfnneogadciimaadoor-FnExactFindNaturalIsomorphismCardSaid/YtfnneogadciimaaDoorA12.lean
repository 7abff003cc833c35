import Derived.Test.YtfnneogadciimaaDoorA11
import Derived.Test.YtfnneogadciimaaDoorA6
import Derived.Test.YtfnneogadciimaaDoorA9
set_option linter.unusedSimpArgs false
set_option linter.unusedVariables false
set_option linter.unusedSectionVars false
namespace Go.Proofs.YtfnneogadciimaaDoor
open Go.RowKit
structure El (α : Type) where
  t : TypeId
  enc : α → Value
  d : α
  b : Nat
  info : (Tryd.prog.info? t).map (fun i => (i.zero, i.size, i.bytes)) = some (some (enc d), 1, b)
  b1 : 1 ≤ b
  b8 : b ≤ 8
  one : ∀ x, (enc x).oneCell' = true
  cells : ∀ x, (enc x).cells = #[enc x]
variable {α : Type}
def getE (E : El α) (xs : List α) (i : Int) : α := xs.getD i.toNat E.d
def RdG (E : El α) (w : World) (v : Value) (xs : List α) : Prop :=
  ∃ (a : Option Addr) (cap : Nat), v = .slice a xs.length cap ∧ xs.length ≤ 17592186044415 ∧
    ∀ j, j < xs.length → ∃ b off, a = some ⟨b, off, none⟩ ∧ b < w.heap.size ∧ ∀ i, i < xs.length → w.cell? ⟨b, off + i, none⟩ = some (E.enc (xs.getD i E.d))
theorem rdG_below {E : El α} {w w' : World} {v : Value} {xs : List α} (hb : Below w.heap.size w w') (h : RdG E w v xs) : RdG E w' v xs := by
  obtain ⟨a, cap, hv, hl, hc⟩ := h
  refine ⟨a, cap, hv, hl, fun j hj => ?_⟩
  obtain ⟨b, off, ha, hbs, hcell⟩ := hc j hj
  exact ⟨b, off, ha, Nat.lt_of_lt_of_le hbs hb.size, fun i hi => (hb.cell (p := ⟨b, off + i, none⟩) hbs).trans (hcell i hi)⟩
theorem rdG_form {E : El α} {w : World} {v : Value} {xs : List α} (h : RdG E w v xs) : ∃ a cap, v = .slice a xs.length cap := by
  obtain ⟨a, cap, hv, _⟩ := h; exact ⟨a, cap, hv⟩
theorem rdG_len {E : El α} {w : World} {v : Value} {xs : List α} (h : RdG E w v xs) : xs.length ≤ 17592186044415 := by obtain ⟨_, _, _, h, _⟩ := h; exact h
def OwnG (E : El α) (v : Value) (xs : List α) (w : World) (S : Nat → Prop) : Prop := (w.ownsRow 0 E.t 1 v xs.length (xs.map E.enc) ∧ xs.length ≤ 17592186044415) ∧ ∀ q, v.ownBlock = some q → S q
theorem ownG_loc (E : El α) (v : Value) (xs : List α) : Loc (OwnG E v xs) where
  keep hs ha h := ⟨⟨own_agree h.1.1 fun q hq e => ha q hq (h.2 q e), h.1.2⟩, fun q hq => hs q (h.1.1.lt q hq).2 (h.2 q hq)⟩
def ownGI (E : El α) (v : Value) (xs : List α) : Itm := ⟨_, ownG_loc E v xs⟩
theorem OwnG.rd {E : El α} {v : Value} {xs : List α} {w : World} {S : Nat → Prop} (h : OwnG E v xs w S) : RdG E w v xs := by
  obtain ⟨⟨⟨hlen, hor⟩, hl⟩, _⟩ := h
  rcases hor with ⟨hv, hn⟩ | ⟨g, cap, cur, hv, hb, hg, hnc, hcm, hcs, ht⟩
  · exact ⟨none, 0, by rw [hv, hn], hl, fun j hj => by omega⟩
  · refine ⟨some ⟨g, 0, none⟩, cap, hv, hl, fun j hj => ⟨g, 0, rfl, (Array.getElem?_eq_some_iff.1 hg).1, fun i hi => ?_⟩⟩
    have h1 : (xs.map E.enc)[i]? = some (E.enc (xs.getD i E.d)) := by
      simp [List.getD_eq_getElem?_getD, List.getElem?_eq_getElem hi]
    rw [← ht] at h1
    rw [cell_of_row w g (0 + i) cur _ (0, 0) hg]
    rw [List.getElem?_take] at h1
    split at h1
    · simpa using h1
    · cases h1
theorem ownG_form {E : El α} {v : Value} {xs : List α} {w : World} {S : Nat → Prop} (h : OwnG E v xs w S) : (v = .slice none 0 0 ∧ xs.length = 0) ∨ ∃ g cap, v = .slice (some ⟨g, 0, none⟩) xs.length cap := by
  rcases h.1.1.2 with ⟨hv, hn⟩ | ⟨g, cap, cur, hv, _⟩
  · exact .inl ⟨hv, hn⟩
  · exact .inr ⟨g, cap, hv⟩
section
variable {w0 : World} {is : List Itm} {ops : Array Oper} {Q : Exit → Act → World → Prop} {o : Oper} {rest : List Oper} {N : Frm} {e : Env} {v : Value} {d : Nat} {K : Act → World → Prop} {E : El α}
theorem mem_ownG {n : Nat} {xs : List α} (h : is[n]? = some (ownGI E v xs)) {w : World} (M : Mem w0 w is) : RdG E w v xs := by
  obtain ⟨S, _, hb⟩ := mem_get M h
  exact OwnG.rd (S := S) hb
theorem mem_rdG {w : World} {xs : List α} (M : Mem w0 w is) (h : RdG E w0 v xs) : RdG E w v xs := rdG_below M.1 h
theorem lenV_G {w : World} {xs : List α} (h : RdG E w v xs) : LenV v xs.length := rdG_form h
theorem lenA_G {w : World} {xs : List α} (h : RdG E w v xs) : LenA v xs.length := by
  obtain ⟨a, cap, hv, _, hc⟩ := h
  exact ⟨a, cap, hv, fun h0 => let ⟨b, off, ha, _⟩ := hc 0 h0; ⟨b, off, ha⟩⟩
theorem qt_loadG (E : El α) {x : Operand} {t : TypeId} {u : Value} {xs : List α} {i : Int} {td : TypeDesc} (hop : o.op = .load t x) (hx : evo e x = some (eltP u i)) (ht : Tryd.prog.underlying t = some td) (hd : aggT td = false)
    (hr : ∀ w, Mem w0 w is → RdG E w u xs) (h0 : 0 ≤ i) (h1 : i < xs.length) : QV w0 is o e (E.enc (getE E xs i)) :=
  fun w ac M F => by
    have hx := F _ _ hx
    obtain ⟨a, cap, hv, _, hc⟩ := hr w M
    obtain ⟨b, off, ha, hb, hcell⟩ := hc i.toNat (by omega)
    subst ha; subst hv
    have hc2 := hcell i.toNat (by omega)
    simp [execOp, hop, hx, eltP, run_load1 ht hd hc2, getE]
theorem go_storeG (E : El α) {t : TypeId} {x y : Operand} {n : Nat} {xs : List α} {z : α} {i : Int} (hd : o.dst = none) (hop : o.op = .store t x y) (hx : evo e x = some (eltP v i)) (hy : evo e y = some (E.enc z))
    (hs : (Tryd.prog.info? t).map (·.size) = some 1) (hi : is[n]? = some (ownGI E v xs)) (h0 : 0 ≤ i) (h1 : i < xs.length)
    (hk : GK w0 (is.set n (ownGI E v (xs.set i.toNat z))) N K e) : GO w0 is N o e Q K := by
  intro w ac M F
  obtain ⟨S, hS, hp, hset⟩ := mem_set M hi
  have hp' : OwnG E v xs w S := hp
  rcases ownG_form hp' with ⟨_, hn⟩ | ⟨g, cap, rfl⟩
  · omega
  have hcell : w.cell? ⟨g, i.toNat, none⟩ = some (E.enc (getE E xs i)) := by
    rw [hp'.1.1.cellAt i.toNat (by omega)]
    simp [getE, List.getD_eq_getElem?_getD, List.getElem?_eq_getElem (show i.toNat < xs.length by omega)]
  have hfz := hp'.1.1.frozenAt i.toNat
  have hst := hp'.1.1.stored i.toNat (E.enc z)
  have h3 : OwnG E (.slice (some ⟨g, 0, none⟩) xs.length cap) (xs.set i.toNat z) (w.setCell ⟨g, i.toNat, none⟩ (E.enc z)) (fun k => S k ∨ w.heap.size ≤ k) := by
    refine ⟨⟨?_, by simpa using hp'.1.2⟩, fun q hq => .inl (hp'.2 q hq)⟩
    have := hst.1
    rw [← List.map_set] at this
    simpa using this
  refine go_skip (w' := w.setCell ⟨g, i.toNat, none⟩ (E.enc z)) hd F ?_ fun ac F => hk _ ac (hset _ _ ⟨hst.2.os, hst.2.tape, hst.2.output, hst.2.size, fun q hq hs => hst.2.block q hq fun e => hs (by rw [Option.some.inj e]; exact hp'.2 g rfl)⟩ h3) F
  intro ρ F; have hx := F _ _ hx; have hy := F _ _ hy
  have he : eltP (.slice (some ⟨g, 0, none⟩) xs.length cap) i = .pointer (some ⟨g, i.toNat, none⟩) := by simp [eltP]
  simp [execOp, hop, hx, hy, he, run_store1 hs (E.one z) (E.cells z) hcell hfz]
theorem go_makeG (E : El α) {x y : Operand} {t : TypeId} {n : Nat} (hd : o.dst = some d) (hN : Nat.blt d N = true) (hop : o.op = .makeSlice t x y) (ht : Tryd.prog.underlying t = some (.slice E.t)) (hx : evo e x = some (.int .i64 (n : Int))) (hy : evo e y = some (.int .i64 (n : Int))) (hn : n ≤ 17592186044415)
    (hk : ∀ B : Nat, GK w0 (is ++ [ownGI E (.slice (some ⟨B, 0, none⟩) n n) (List.replicate n E.d)]) N K ((d, .slice (some ⟨B, 0, none⟩) n n) :: e)) : GO w0 is N o e Q K := by
  intro w ac M F
  obtain ⟨i, hi, hz, hs, hb⟩ := info_parts E.info
  have b8 := E.b8
  obtain ⟨w', hr, hown, hgrow⟩ := run_make_full (P := Tryd.prog) w w.heap.size t E.t i (E.enc E.d) 1 ht hi hz hs .i64 .i64 n (by rw [hb]; have h1 := Nat.mul_le_mul_right n b8; omega) (by unfold maxLen; omega) (Nat.le_refl _)
  have hone : (madeCells #[E.enc E.d] n).toList = (List.replicate n E.d).map E.enc := by rw [toList_madeCells_one]; simp
  have hs' : OwnG E (.slice (some ⟨w.heap.size, 0, none⟩) n n) (List.replicate n E.d) w' (fun k => w.heap.size ≤ k) := by
    simp only [E.cells, Nat.mul_one] at hown
    rw [hone] at hown
    refine ⟨⟨by simpa using own_base hown, by simpa using hn⟩, fun q hq => by simp [Value.ownBlock] at hq; omega⟩
  refine go_val (v := .slice (some ⟨w.heap.size, 0, none⟩) n n) (w' := w') hd hN F ?_ fun ac F => hk w.heap.size w' ac (mem_new M ((Below.refl _ _).grown hgrow (Nat.le_refl _) (by simp)) hs') F
  intro ρ F; have hx := F _ _ hx; have hy := F _ _ hy
  simp only [execOp, hop, hx, hy, Sem.run_bind, hr, Result.andThen_ok]
  rfl
theorem mem_rowG (E : El α) {w : World} {xs : List α} (M : Mem w0 w is) (hl : xs.length ≤ 17592186044415) : Mem w0 (w.alloc (.cells (xs.map E.enc).toArray E.t)) (is ++ [ownGI E (.slice (some ⟨w.heap.size, 0, none⟩) xs.length xs.length) xs]) := by
  refine mem_new M (below_alloc w _) ⟨⟨?_, hl⟩, ?_⟩
  · refine ⟨by simp, .inr ⟨w.heap.size, xs.length, (xs.map E.enc).toArray, rfl, Nat.zero_le _, heap_alloc_new w _, Nat.le_refl _, ?_, by simp, ?_⟩⟩
    · unfold maxLen; omega
    · rw [List.take_of_length_le (by simp)]
  · intro q hq
    simp [Value.ownBlock] at hq
    omega
theorem go_sliceG0 (E : El α) {t : TypeId} (hd : o.dst = some d) (hN : Nat.blt d N = true) (hop : o.op = .buildSlice t 0 #[]) (ht : Tryd.prog.underlying t = some (.slice E.t))
    (hk : ∀ B : Nat, GK w0 (is ++ [ownGI E (.slice (some ⟨B, 0, none⟩) 0 0) []]) N K ((d, .slice (some ⟨B, 0, none⟩) 0 0) :: e)) : GO w0 is N o e Q K := by
  intro w ac M F
  obtain ⟨i, hi, hz, hs, hb⟩ := info_parts E.info
  refine go_val (v := .slice (some ⟨w.heap.size, 0, none⟩) 0 0) (w' := w.alloc (.cells #[] E.t)) hd hN F ?_ fun ac F => hk _ _ ac (mem_rowG E (xs := []) M (by simp)) F
  intro ρ F
  simp [execOp, hop, Instr.buildSlice, run_underlying ht, sizeOf, typeInfo, hi, Instr.fill, newRow, range0]
theorem go_appendG (E : El α) {s x : Operand} {t : TypeId} {n : Nat} {xs ys : List α} {ua : Option Addr} {un uc : Nat} (hd : o.dst = some d) (hN : Nat.blt d N = true) (hop : o.op = .call { callee := .builtin .append, args := #[s, x], argTypes := #[t, t] }) (ht : Tryd.prog.underlying t = some (.slice E.t))
    (hs : evo e s = some v) (hx : evo e x = some (.slice ua un uc)) (hi : is[n]? = some (ownGI E v xs)) (hj : ∀ w, Mem w0 w is → RdG E w (.slice ua un uc) ys) (hnn : isNilV (.slice ua un uc) = false) (hn : xs.length + ys.length ≤ 17592186044415)
    (hk : ∀ a cap, GK w0 (is.set n (ownGI E (.slice a (xs ++ ys).length cap) (xs ++ ys))) N K ((d, .slice a (xs ++ ys).length cap) :: e)) : GO w0 is N o e Q K := by
  intro w ac M F
  obtain ⟨ad, cap, hv, _, hc⟩ := hj w M
  simp only [Value.slice.injEq] at hv
  obtain ⟨rfl, rfl, rfl⟩ := hv
  have hbo : ∃ b off bl, ua = some ⟨b, off, bl⟩ ∧ (0 < ys.length → bl = none) := by
    cases ua with
    | none => simp [isNilV] at hnn
    | some q =>
      obtain ⟨b, off, bl⟩ := q
      refine ⟨b, off, bl, rfl, fun h0 => ?_⟩
      obtain ⟨b', off', ha, _⟩ := hc 0 h0
      simp only [Option.some.injEq, Addr.mk.injEq] at ha
      exact ha.2.2
  obtain ⟨b, off, bl, rfl, hbl⟩ := hbo
  obtain ⟨S, hS, hp, hset⟩ := mem_set M hi
  have hp : OwnG E v xs w S := hp
  obtain ⟨i, hi', hz, hs1, hb⟩ := info_parts E.info
  have b8 := E.b8; have b1 := E.b1
  obtain ⟨v', w', hr, hown, hgrow, _, hat⟩ := run_append_own_at (P := Tryd.prog) w 0 t o.type E.t i (E.enc E.d) 1 E.b ht hi' hz hs1 hb (by rw [E.cells]; rfl) (by omega) v xs.length (xs.map E.enc) hp.1.1 ⟨b, off, bl⟩ ys.length uc (ys.map E.enc) (by simp) (fun j u hu => by
    have hjl : j < ys.length := by
      have := (List.getElem?_eq_some_iff.1 hu).1
      simpa using this
    have hbl' := hbl (by omega)
    subst hbl'
    obtain ⟨b', off', ha, _, hcell⟩ := hc j hjl
    simp only [Option.some.injEq, Addr.mk.injEq] at ha
    obtain ⟨rfl, rfl, _⟩ := ha
    have := hcell j hjl
    simp only [List.getElem?_map, List.getElem?_eq_getElem hjl, Option.map_some, Option.some.injEq] at hu
    subst hu
    simp only [List.getD_eq_getElem?_getD, List.getElem?_eq_getElem hjl, Option.getD_some] at this
    have hadd : (⟨b, off, none⟩ : Addr).add j = ⟨b, off + j, none⟩ := by unfold Addr.add; split <;> simp_all
    rw [hadd]; exact this) (by intro u hu; obtain ⟨z, _, rfl⟩ := List.mem_map.1 hu; exact E.one z) (by unfold maxLen; omega) (by have := Nat.mul_le_mul_left (xs.length + ys.length) b8; omega) (Nat.zero_le _)
  have hsl : w'.ownsRow 0 E.t 1 v' (xs ++ ys).length ((xs ++ ys).map E.enc) ∧ (xs ++ ys).length ≤ 17592186044415 := ⟨by simpa using hown, by simpa using hn⟩
  obtain ⟨va, vc, rfl⟩ : ∃ va vc, v' = .slice va (xs ++ ys).length vc := by
    rcases hsl.1.2 with ⟨hv, hn⟩ | ⟨g, cap, cur, hv, _⟩
    · exact ⟨none, 0, by rw [hv, hn]⟩
    · exact ⟨_, cap, hv⟩
  refine go_val (v := .slice va (xs ++ ys).length vc) (w' := w') hd hN F ?_ fun ac F => hk va vc w' ac (hset w' (ownGI E (.slice va (xs ++ ys).length vc) (xs ++ ys)) (frS_grown hgrow hp.2) ⟨hsl, fun q hq => ?_⟩) F
  · intro ρ F; have hs := F _ _ hs; have hx := F _ _ hx
    simp only [execOp, hop, resolve, invoke, builtin, Sem.run_bind, Sem.run_pure, Result.andThen_ok, List.map_toArray, List.map_cons, List.map_nil, hs, hx]
    rw [hr]
    rfl
  · rcases hat with hat | hat
    · exact .inl (hp.2 q (by rw [← hat]; exact hq))
    · rw [hat] at hq
      simp only [Option.some.injEq] at hq
      exact .inr (by omega)
end
end Go.Proofs.YtfnneogadciimaaDoor
set_option linter.unusedSimpArgs false
set_option linter.unusedVariables false
set_option linter.unusedSectionVars false
namespace Go.Proofs.YtfnneogadciimaaDoor
open Go.RowKit
def bitsI (s : Nat) : List Int := (bitsN s).map fun (n : Nat) => (n : Int)
theorem bitsI_next {s : Nat} (h0 : s ≠ 0) (h : s < 18446744073709551616) : bitsI s = (tzN s : Int) :: bitsI (s &&& (s - 1)) := by unfold bitsI; rw [(bits_next h0 h).1]; rfl
theorem bitsI_zero : bitsI 0 = [] := by rw [bitsI, bits_zero]; rfl
abbrev numSeqB (Bx s : Nat) : List Itm := [bxI Bx 86 [vU s]]
def NumSeq (w0 : World) (Bx s : Nat) : Prop := SeqC w0 (numSeqB Bx s) 118 [.pointer (some ⟨Bx, 0, none⟩)] (fun x : Int => .int .i64 x) (fun _ => []) (fun x => x) (bitsI s)
theorem pre_step {α : Type} {pre zs : List α} {z : α} : (pre ++ [z]) <+: pre ++ z :: zs := ⟨zs, by simp⟩
theorem map_id' (l : List Int) : l.map (fun x => x) = l := by simp
set_option maxHeartbeats 1000000 in
set_option maxRecDepth 100000 in
theorem numSeq_any (w0 w : World) (C Cx : List Int → Itm) (l Bx z : Nat) (hT : TabW w0) (hz : z < 18446744073709551616) (Y : YieldC w0 C Cx l (fun x : Int => .int .i64 x) (fun _ => []) (fun x => x) (bitsI z)) (M : Mem w0 w [C [], bxI Bx 86 [vU z]]) :
    Calls Tryd.prog 118 #[.func (.yield l) #[] #[], .pointer (some ⟨Bx, 0, none⟩)] w (fun e W' => (∃ v, e = .returned v) ∧ ((∃ xs, xs.map (fun x => x) = bitsI z ∧ Mem w0 W' (C xs :: numSeqB Bx z)) ∨ (∃ pre, (pre.map (fun x => x)) <+: bitsI z ∧ Mem w0 W' (Cx pre :: numSeqB Bx z)))) := by
  go_enter Tryd.func118, Tryd.ntmps118
  refine gc_enterM M (N := 16) rfl (look_cons (k := 0) rfl (look_cons (k := 1) rfl (look_nil _))) ?_
  clear M
  refine gc_seq fun K1 hK1 => ?_
  refine gc_region ?_
  refine g_v (.free rfl) rfl rfl (qt_loadB (n := 1) rfl rfl Tryd.underlying86 rfl rfl rfl) ?_
  refine g_v (.free rfl) rfl rfl (qt_assign rfl rfl) ?_
  refine g_nil ?_
  refine gk_then (hK1 _ _ ?_)
  refine gc_block ?_
  try simp only [List.nil_append, List.cons_append, List.append_assoc, List.set_cons_succ, List.set_cons_zero]
  refine gc_loop ([(0, _), (1, _)] : Env) (fun s : (List Int) × Nat => (fun (pre : List Int) (s : Nat) => ([(3, vU s)] : Env)) s.1 s.2) (fun s : (List Int) × Nat => (fun (pre : List Int) (s : Nat) => ([(0, C pre)] : List (Nat × Itm))) s.1 s.2) (fun s : (List Int) × Nat => (fun (pre : List Int) (s : Nat) => s < 18446744073709551616 ∧ bitsI z = pre ++ bitsI s) s.1 s.2) (fun s : (List Int) × Nat => (fun (pre : List Int) (s : Nat) => s) s.1 s.2) ([], z) (sub_cons rfl (sub_cons rfl (sub_cons rfl sub_nil))) rfl ⟨hz, rfl⟩ ?_
  rintro ⟨pre, s⟩ hinv KL2 hKL2
  simp only [updL, List.foldl_cons, List.foldl_nil, List.set_cons_succ, List.set_cons_zero, List.cons_append, List.nil_append] at hinv hKL2 ⊢
  obtain ⟨hs, hb⟩ := hinv
  refine gc_seq fun K3 hK3 => ?_
  refine gc_seq fun K4 hK4 => ?_
  refine gc_region ?_
  refine g_v (.free rfl) rfl rfl (qt_move rfl rfl) ?_
  refine g_v (.free rfl) rfl rfl (qt_neq rfl rfl rfl) ?_
  refine g_nil ?_
  refine gk_then (hK4 _ _ ?_)
  refine gc_cond rfl (fun hc0 => ?_) (fun hc0 => ?_)
  · try simp only [decide_eq_true_eq, decide_eq_false_iff_not, Bool.not_eq_true', Bool.not_eq_false', Bool.not_eq_eq_eq_not, Bool.not_true, Bool.not_false, ne_eq, Decidable.not_not, Classical.not_not] at hc0
    refine gc_skip ?_
    refine gk_then (hK3 _ _ ?_)
    refine gc_seq fun K5 hK5 => ?_
    refine gc_block ?_
    refine gc_seq fun K6 hK6 => ?_
    have hs0 : s ≠ 0 := by omega
    refine gc_region ?_
    refine g_v (.free rfl) rfl rfl (qt_move rfl rfl) ?_
    refine g_v (.free rfl) rfl rfl (qt_move rfl rfl) ?_
    refine g_q (.free rfl) rfl rfl (qt_call rfl Tryd.func90 rfl (by decide) rfl (fun w M => tz_any w _ (by first | assumption | omega) (by first | assumption | omega) (TabW.mem hT M))) ?_
    refine g_yield (tzN s : Int) (.free rfl) rfl rfl rfl rfl rfl Y (by rw [map_id', hb, bitsI_next hs0 hs]; exact pre_step) (List.Perm.refl _) ?_ ?_
    · skip
      refine g_v (.free rfl) rfl rfl (qt_not rfl rfl) ?_
      refine g_nil ?_
      refine gk_then (hK6 _ _ ?_)
      refine gc_cond_f rfl ?_
      refine gc_skip ?_
      refine gk_block ?_
      refine gk_then (hK5 _ _ ?_)
      refine gc_region ?_
      refine g_v (.free rfl) rfl rfl (qt_move rfl rfl) ?_
      refine g_v (.free rfl) rfl rfl (qt_move rfl rfl) ?_
      refine g_v (.free rfl) rfl rfl (qt_subU rfl rfl hs0 hs) ?_
      refine g_v (.free rfl) rfl rfl (qt_andU rfl rfl rfl hs (by omega)) ?_
      refine g_v (.free rfl) rfl rfl (qt_assign rfl rfl) ?_
      refine g_nil ?_
      refine gk_then (gk_take 2 ?_)
      refine gk_sub ?hs_7 (hKL2 (pre ++ [(tzN s : Int)], s &&& (s - 1)) ?hi_7 ?hm_7)
      case hs_7 => exact (sub_cons rfl (sub_cons rfl (sub_cons rfl sub_nil)))
      case hi_7 => exact ⟨Nat.lt_of_lt_of_le (and_pred_lt hs hs0) (by omega), by rw [hb, bitsI_next hs0 hs]; simp⟩
      case hm_7 => exact and_pred_lt hs hs0
    · skip
      refine g_v (.free rfl) rfl rfl (qt_not rfl rfl) ?_
      refine g_nil ?_
      refine gk_then (hK6 _ _ ?_)
      refine gc_cond_t rfl ?_
      refine gc_ret ?_
      refine gk_block_ret ?_
      refine gk_then_ret ?_
      refine gk_then_ret ?_
      refine gk_block_ret ?_
      refine ret_0 rfl (fun w M => ?_)
      exact ⟨⟨_, rfl⟩, .inr ⟨_, by rw [map_id', hb, bitsI_next hs0 hs]; exact pre_step, mem_take 2 M⟩⟩
  · try simp only [decide_eq_true_eq, decide_eq_false_iff_not, Bool.not_eq_true', Bool.not_eq_false', Bool.not_eq_eq_eq_not, Bool.not_true, Bool.not_false, ne_eq, Decidable.not_not, Classical.not_not] at hc0
    refine gc_exit ?_
    refine gk_then_exit ?_
    refine gk_then_exit ?_
    refine gk_block_hit ?_
    refine ret_0n rfl (fun w M => ?_)
    obtain rfl : s = 0 := by omega
    rw [bitsI_zero, List.append_nil] at hb
    exact ⟨⟨_, rfl⟩, .inl ⟨pre, by rw [map_id', hb], mem_take 2 M⟩⟩
theorem num_seq {w0 : World} (hT : TabW w0) {Bx z : Nat} (hz : z < 18446744073709551616) : NumSeq w0 Bx z := fun C Cx l Y W M => numSeq_any w0 W C Cx l Bx z hT hz Y M
end Go.Proofs.YtfnneogadciimaaDoor
set_option linter.unusedSimpArgs false
set_option linter.unusedVariables false
set_option linter.unusedSectionVars false
namespace Go.Proofs.YtfnneogadciimaaDoor
open Go.RowKit
def elW : El Nat := ⟨86, vU, 0, 8, by kernel_rfl, by decide, by decide, fun _ => rfl, fun _ => rfl⟩
theorem ul_elW : Tryd.prog.underlying 68 = some (.slice (Tryd.prog.elem 68)) := by kernel_rfl
theorem sz_elW : (Tryd.prog.info? (Tryd.prog.elem 68)).map (fun i => i.size) = some 1 := by kernel_rfl
abbrev atW (ss : List Nat) (i : Int) : Nat := getE elW ss i
def AllW (ss : List Nat) : Prop := ∀ s ∈ ss, s < 18446744073709551616
theorem atW_lt {ss : List Nat} (h : AllW ss) (i : Int) : atW ss i < 18446744073709551616 := by
  show ss.getD i.toNat 0 < _
  rw [List.getD_eq_getElem?_getD]
  cases e : ss[i.toNat]? with
  | none => simp
  | some s => exact h s (List.mem_of_getElem? e)
theorem allW_set {ss : List Nat} (h : AllW ss) {i t : Nat} (ht : t < 18446744073709551616) : AllW (ss.set i t) := fun s hs => by
  rcases List.mem_or_eq_of_mem_set hs with hs | rfl
  · exact h s hs
  · exact ht
theorem and_lt {a b : Nat} (h : a < 18446744073709551616) : a &&& b < 18446744073709551616 := Nat.lt_of_le_of_lt Nat.and_le_left h
theorem or_lt {a b : Nat} (h : a < 18446744073709551616) (h' : b < 18446744073709551616) : a ||| b < 18446744073709551616 := Nat.or_lt_two_pow (n := 64) h h'
theorem only_lt (n : Int) : onlyN n < 18446744073709551616 := by
  unfold onlyN
  split
  · rename_i h; exact Nat.pow_lt_pow_right (by decide) (show n.toNat < 64 by omega)
  · decide
theorem only_ne {n : Int} (h0 : 0 ≤ n) (h1 : n < 64) : onlyN n ≠ 0 := by
  unfold onlyN; rw [if_pos ⟨h0, h1⟩]; have := Nat.pow_pos (n := n.toNat) (show 0 < 2 by decide); omega
theorem atW_set {ss : List Nat} {p : Int} {t : Nat} (p0 : 0 ≤ p) (p1 : p < ss.length) : getE elW (ss.set p.toNat t) p = t := by
  show (ss.set p.toNat t).getD p.toNat 0 = _
  rw [List.getD_eq_getElem?_getD, List.getElem?_set_self (by omega)]; rfl
theorem rdG_nil {α : Type} {E : El α} {w : World} {a : Option Addr} {n c : Nat} {xs : List α} (h : RdG E w (.slice a n c) xs) (hn : isNilV (.slice a n c) = true) : xs = [] := by
  obtain ⟨a', cap, hv, _, hc⟩ := h
  rcases Nat.eq_zero_or_pos xs.length with h0 | h0
  · exact List.eq_nil_of_length_eq_zero h0
  · obtain ⟨b, off, ha, _⟩ := hc 0 h0
    subst ha; simp only [Value.slice.injEq] at hv; rw [hv.1] at hn; simp [isNilV] at hn
def RetG {α : Type} (E : El α) (W : World) (xs : List α) (e : Ending) (w' : World) : Prop := ∃ v, e = .returned v ∧ OwnG E v xs w' (fun k => W.heap.size ≤ k) ∧ Below W.heap.size W w'
def RetNum (W : World) (s : Nat) (e : Ending) (w' : World) : Prop := ∃ B, e = .returned (.func (.func 118) #[] #[.pointer (some ⟨B, 0, none⟩)]) ∧ Bx w' B 86 [vU s] ∧ W.heap.size ≤ B ∧ Below W.heap.size W w'
section
variable {w0 : World} {is : List Itm} {Q : Exit → Act → World → Prop} {o : Oper} {N : Frm} {e : Env} {d : Nat} {K : Act → World → Prop} {f : FuncId} {fn : Func} {ags : Array Operand} {ts : Array TypeId} {vs : List Value}
theorem go_callG {α : Type} {E : El α} {xs : List α} (hd : o.dst = some d) (hN : Nat.blt d N = true) (hop : o.op = .call { callee := .value (.func f), args := ags, argTypes := ts }) (hfn : Tryd.prog.funcs[f]? = some fn) (hb : fn.body.isNone = false) (hn : (fn.name == "runtime.NumGoroutine") = false)
    (hargs : evoL e ags.toList = some vs) (hc : ∀ w, Mem w0 w is → Calls Tryd.prog f vs.toArray w (RetG E w xs)) (hk : ∀ a cap, GK w0 (is ++ [ownGI E (.slice a xs.length cap) xs]) N K ((d, .slice a xs.length cap) :: e)) : GO w0 is N o e Q K := by
  intro w a M F
  refine go_call hd hN F hop hfn hb hn hargs (hc w M) fun e' w' hR => ?_
  obtain ⟨v, rfl, hs, hbl⟩ := hR
  obtain ⟨va, vc, rfl⟩ := rdG_form (OwnG.rd hs)
  exact ⟨_, rfl, fun a F => hk va vc w' a (mem_new M hbl hs) F⟩
theorem go_callNum {s : Nat} (hd : o.dst = some d) (hN : Nat.blt d N = true) (hop : o.op = .call { callee := .value (.func f), args := ags, argTypes := ts }) (hfn : Tryd.prog.funcs[f]? = some fn) (hb : fn.body.isNone = false) (hn : (fn.name == "runtime.NumGoroutine") = false)
    (hargs : evoL e ags.toList = some vs) (hc : ∀ w, Mem w0 w is → Calls Tryd.prog f vs.toArray w (RetNum w s)) (hk : ∀ B, GK w0 (is ++ [bxI B 86 [vU s]]) N K ((d, .func (.func 118) #[] #[.pointer (some ⟨B, 0, none⟩)]) :: e)) : GO w0 is N o e Q K := by
  intro w a M F
  refine go_call hd hN F hop hfn hb hn hargs (hc w M) fun e' w' hR => ?_
  obtain ⟨B, rfl, hs, hle, hbl⟩ := hR
  exact ⟨_, rfl, fun a F => hk B w' a (mem_new M hbl ⟨hs, hle⟩) F⟩
end
theorem own_of_mem {w w' : World} {is : List Itm} {n : Nat} {i : Itm} (M : Mem w w' is) (h : is[n]? = some i) : i.p w' (fun k => w.heap.size ≤ k) := by
  obtain ⟨S, hS, hp⟩ := mem_get M h
  exact i.loc.keep (fun k _ hk => hS k hk) agree_refl hp
set_option maxHeartbeats 1000000 in
set_option maxRecDepth 100000 in
theorem numbers_any (w : World) (s : Nat) :
    Calls Tryd.prog 91 #[vU s] w (RetNum w s) := by
  go_enter Tryd.func91, Tryd.ntmps91
  refine gc_enter (N := 4) rfl (look_cons (k := 0) rfl (look_nil _)) ?_
  refine gc_seq fun K1 hK1 => ?_
  refine gc_region ?_
  refine g_op (.free rfl) fun K3 hK3 => ?_
  refine go_box rfl rfl rfl rfl rfl ?_
  intro B2
  refine hK3 _ _ ?_
  refine g_v (.free rfl) rfl rfl (qt_assign rfl rfl) ?_
  refine g_nil ?_
  refine gk_then (hK1 _ _ ?_)
  refine gc_seq fun K4 hK4 => ?_
  refine gc_region ?_
  refine g_v (.free rfl) rfl rfl (qt_makeF rfl rfl) ?_
  refine g_v (.free rfl) rfl rfl (qt_assign rfl rfl) ?_
  refine g_nil ?_
  refine gk_then (hK4 _ _ ?_)
  refine gc_ret ?_
  refine ret_1 rfl rfl  (fun w M => ?_)
  exact ⟨_, rfl, (own_of_mem (n := 0) M rfl).1, (own_of_mem (n := 0) M rfl).2, M.1⟩
set_option maxHeartbeats 1000000 in
set_option maxRecDepth 100000 in
theorem cloneW_any (w : World) (v : Value) (ss : List Nat) (h : RdG elW w v ss) :
    Calls Tryd.prog 89 #[v] w (RetG elW w ss) := by
  obtain ⟨va, vc, rfl⟩ := rdG_form h
  go_enter Tryd.func89, Tryd.ntmps89
  refine gc_enter (N := 8) rfl (look_cons (k := 0) rfl (look_nil _)) ?_
  refine gc_seq fun K1 hK1 => ?_
  refine gc_region ?_
  refine g_v (.free rfl) rfl rfl (qt_assign rfl rfl) ?_
  refine g_nil ?_
  refine gk_then (hK1 _ _ ?_)
  refine gc_seq fun K2 hK2 => ?_
  refine gc_seq fun K3 hK3 => ?_
  refine gc_region ?_
  refine g_v (.free rfl) rfl rfl (qt_move rfl rfl) ?_
  refine g_v (.free rfl) rfl rfl (qt_eqNil rfl rfl Tryd.underlying68) ?_
  refine g_nil ?_
  refine gk_then (hK3 _ _ ?_)
  refine gc_cond rfl (fun hc0 => ?_) (fun hc0 => ?_)
  · try simp only [decide_eq_true_eq, decide_eq_false_iff_not, Bool.not_eq_true', Bool.not_eq_false', Bool.not_eq_eq_eq_not, Bool.not_true, Bool.not_false, ne_eq, Decidable.not_not, Classical.not_not] at hc0
    refine gc_seq fun K4 hK4 => ?_
    have hn := rdG_nil h hc0
    subst hn
    refine gc_region ?_
    refine g_v (.free rfl) rfl rfl (qt_assign rfl rfl) ?_
    refine g_nil ?_
    refine gk_then (hK4 _ _ ?_)
    refine gc_ret ?_
    refine gk_then_ret ?_
    refine ret_1 rfl rfl  (fun w M => ?_)
    exact ⟨_, rfl, ⟨⟨World.ownsRow_nil w _ _ 1, by simp⟩, fun q hq => by simp [Value.ownBlock] at hq⟩, M.1⟩
  · try simp only [decide_eq_true_eq, decide_eq_false_iff_not, Bool.not_eq_true', Bool.not_eq_false', Bool.not_eq_eq_eq_not, Bool.not_true, Bool.not_false, ne_eq, Decidable.not_not, Classical.not_not] at hc0
    refine gc_skip ?_
    refine gk_then (hK2 _ _ ?_)
    refine gc_seq fun K5 hK5 => ?_
    have hl := rdG_len h
    refine gc_region ?_
    refine g_op (.free rfl) fun K7 hK7 => ?_
    refine go_sliceG0 elW rfl rfl rfl Tryd.underlying68 ?_
    intro B6
    refine hK7 _ _ ?_
    refine g_v (.free rfl) rfl rfl (qt_move rfl rfl) ?_
    refine g_op (.free rfl) fun K9 hK9 => ?_
    refine go_appendG elW (n := 0) rfl rfl rfl Tryd.underlying68 rfl rfl rfl (fun w M => mem_rdG M h) hc0 (by first | simp; omega | omega) ?_
    intro va8 vc8
    refine hK9 _ _ ?_
    refine g_v (.free rfl) rfl rfl (qt_assign rfl rfl) ?_
    refine g_nil ?_
    refine gk_then (hK5 _ _ ?_)
    refine gc_ret ?_
    refine ret_1 rfl rfl  (fun w M => ?_)
    exact ⟨_, rfl, own_of_mem (n := 0) M rfl, M.1⟩
set_option maxHeartbeats 1000000 in
set_option maxRecDepth 100000 in
theorem restrict_any (w0 w : World) (v : Value) (ss : List Nat) (p : Int) (t : Nat) (R : Itm) (p0 : 0 ≤ p) (p1 : p < ss.length) (hs : AllW ss) (ht : t < 18446744073709551616) (M : Mem w0 w [ownGI elW v ss, R]) :
    Calls Tryd.prog 95 #[v, .int .i64 p, vU t] w (fun e w' => e = .returned (.bool (decide (((atW ss p &&& t : Nat) : Int) ≠ (atW ss p : Int)))) ∧ Mem w0 w' [ownGI elW v (ss.set p.toNat (atW ss p &&& t)), R]) := by
  go_enter Tryd.func95, Tryd.ntmps95
  refine gc_enterM M (N := 25) rfl (look_cons (k := 0) rfl (look_cons (k := 1) rfl (look_cons (k := 2) rfl (look_nil _)))) ?_
  clear M
  refine gc_seq fun K1 hK1 => ?_
  refine gc_region ?_
  refine g_v (.free rfl) rfl rfl (qt_assign rfl rfl) ?_
  refine g_nil ?_
  refine gk_then (hK1 _ _ ?_)
  refine gc_seq fun K2 hK2 => ?_
  refine gc_region ?_
  refine g_v (.free rfl) rfl rfl (qt_move rfl rfl) ?_
  refine g_v (.free rfl) rfl rfl (qt_move rfl rfl) ?_
  refine g_v (.free rfl) rfl rfl (qt_index rfl rfl rfl ul_elW sz_elW (fun w M => lenA_G (mem_ownG (n := 0) rfl M)) (by omega) (by omega)) ?_
  refine g_v (.free rfl) rfl rfl (qt_loadG elW rfl rfl Tryd.underlying86 rfl (fun w M => mem_ownG (n := 0) rfl M) (by omega) (by omega)) ?_
  refine g_v (.free rfl) rfl rfl (qt_assign rfl rfl) ?_
  refine g_nil ?_
  refine gk_then (hK2 _ _ ?_)
  refine gc_seq fun K3 hK3 => ?_
  refine gc_region ?_
  refine g_v (.free rfl) rfl rfl (qt_move rfl rfl) ?_
  refine g_v (.free rfl) rfl rfl (qt_move rfl rfl) ?_
  refine g_v (.free rfl) rfl rfl (qt_index rfl rfl rfl ul_elW sz_elW (fun w M => lenA_G (mem_ownG (n := 0) rfl M)) (by omega) (by omega)) ?_
  refine g_v (.free rfl) rfl rfl (qt_loadG elW rfl rfl Tryd.underlying86 rfl (fun w M => mem_ownG (n := 0) rfl M) (by omega) (by omega)) ?_
  refine g_v (.free rfl) rfl rfl (qt_move rfl rfl) ?_
  refine g_v (.free rfl) rfl rfl (qt_andU rfl rfl rfl (atW_lt hs p) ht) ?_
  refine g_v (.free rfl) rfl rfl (qt_index rfl rfl rfl ul_elW sz_elW (fun w M => lenA_G (mem_ownG (n := 0) rfl M)) (by omega) (by omega)) ?_
  refine g_op (.free rfl) fun K4 hK4 => ?_
  refine go_storeG elW (n := 0) rfl rfl rfl rfl (by kernel_rfl) rfl (by omega) (by omega) ?_
  refine hK4 _ _ ?_
  refine g_nil ?_
  refine gk_then (hK3 _ _ ?_)
  refine gc_seq fun K5 hK5 => ?_
  refine gc_region ?_
  refine g_v (.free rfl) rfl rfl (qt_move rfl rfl) ?_
  refine g_v (.free rfl) rfl rfl (qt_move rfl rfl) ?_
  refine g_v (.free rfl) rfl rfl (qt_index rfl rfl rfl ul_elW sz_elW (fun w M => lenA_G (mem_ownG (n := 0) rfl M)) (by omega) (by simpa using p1)) ?_
  refine g_v (.free rfl) rfl rfl (qt_loadG elW rfl rfl Tryd.underlying86 rfl (fun w M => mem_ownG (n := 0) rfl M) (by omega) (by simpa using p1)) ?_
  refine g_v (.free rfl) rfl rfl (qt_move rfl rfl) ?_
  refine g_v (.free rfl) rfl rfl (qt_neq rfl rfl rfl) ?_
  refine g_v (.free rfl) rfl rfl (qt_assign rfl rfl) ?_
  refine g_nil ?_
  refine gk_then (hK5 _ _ ?_)
  refine gc_ret ?_
  refine ret_1 rfl rfl  (fun w M => ?_)
  rw [atW_set p0 p1]; exact ⟨rfl, M⟩
theorem find_least {p : Nat → Bool} : ∀ n, ((List.range n).find? p = none → ∀ i, i < n → p i = false) ∧ ∀ k, k < n → (∀ j, j < k → p j = false) → p k = true → (List.range n).find? p = some k
  | 0 => ⟨fun _ i h => absurd h (by omega), fun k h => absurd h (by omega)⟩
  | n + 1 => by
    rw [List.range_succ, List.find?_append]
    obtain ⟨h1, h2⟩ := find_least (p := p) n
    refine ⟨fun h i hi => ?_, fun k hk hj hp => ?_⟩
    · rw [Option.or_eq_none_iff] at h
      by_cases e : i = n
      · subst e; have := h.2; simpa using this
      · exact h1 h.1 i (by omega)
    · by_cases e : k = n
      · subst e
        have : (List.range k).find? p = none := List.find?_eq_none.2 fun i hi => by rw [hj i (List.mem_range.1 hi)]; simp
        rw [this]; simp [hp]
      · rw [h2 k (by omega) hj hp]; rfl
def idxZ (ss : List Nat) (z : Nat) : Int := ((List.range ss.length).find? fun i => ss.getD i 0 == z).elim (-1) fun i => (i : Int)
theorem idxZ_at {ss : List Nat} {z k : Nat} (hk : k < ss.length) (hj : ∀ j : Nat, j < k → ¬ z = atW ss (j : Int)) (h : z = atW ss (k : Int)) : idxZ ss z = (k : Int) := by
  unfold idxZ
  rw [(find_least ss.length).2 k hk (fun j hjk => by
    have := hj j hjk
    have e : atW ss (j : Int) = ss.getD j 0 := rfl
    rw [e] at this; simp only [beq_eq_false_iff_ne, ne_eq]; exact fun h => this h.symm) (by
    have e : atW ss (k : Int) = ss.getD k 0 := rfl
    rw [e] at h; simp only [beq_iff_eq]; exact h.symm)]
  rfl
theorem idxZ_none {ss : List Nat} {z : Nat} (hj : ∀ j : Nat, j < ss.length → ¬ z = atW ss (j : Int)) : idxZ ss z = -1 := by
  unfold idxZ
  cases e : (List.range ss.length).find? fun i => ss.getD i 0 == z with
  | none => rfl
  | some i =>
    have h1 := List.find?_some e
    have h2 := List.mem_range.1 (List.mem_of_find?_eq_some e)
    simp only [beq_iff_eq] at h1
    exact absurd h1.symm (hj i h2)
theorem idxZ_mem {ss : List Nat} {z : Nat} : 0 ≤ idxZ ss z ↔ z ∈ ss := by
  by_cases h : ∃ k : Nat, k < ss.length ∧ z = ss.getD k 0
  · obtain ⟨k, hk, he, hl⟩ : ∃ k : Nat, k < ss.length ∧ z = ss.getD k 0 ∧ ∀ j, j < k → ¬ z = ss.getD j 0 := by
      obtain ⟨k0, h1, h2⟩ := h
      obtain ⟨m, ⟨hm1, hm2⟩, hm⟩ := exists_least (fun k => k < ss.length ∧ z = ss.getD k 0) k0 ⟨h1, h2⟩
      exact ⟨m, hm1, hm2, fun j hj h => by have := hm j ⟨by omega, h⟩; omega⟩
    rw [idxZ_at hk (fun j hj => hl j hj) he]
    refine ⟨fun _ => ?_, fun _ => by omega⟩
    rw [he, List.getD_eq_getElem?_getD, List.getElem?_eq_getElem hk]; exact List.getElem_mem hk
  · rw [idxZ_none fun j hj he => h ⟨j, hj, he⟩]
    refine ⟨fun h => absurd h (by decide), fun hm => ?_⟩
    obtain ⟨k, hk, he⟩ := List.getElem_of_mem hm
    exact absurd ⟨k, hk, by rw [List.getD_eq_getElem?_getD, List.getElem?_eq_getElem hk]; exact he.symm⟩ h
set_option maxHeartbeats 1000000 in
set_option maxRecDepth 100000 in
theorem indexW_any (w : World) (v : Value) (ss : List Nat) (z : Nat) (h : RdG elW w v ss) :
    Calls Tryd.prog 92 #[v, vU z] w (RetI w (idxZ ss z)) := by
  obtain ⟨va, vc, rfl⟩ := rdG_form h
  have hl := rdG_len h
  go_enter Tryd.func92, Tryd.ntmps92
  refine gc_enter (N := 19) rfl (look_cons (k := 0) rfl (look_cons (k := 1) rfl (look_nil _))) ?_
  refine gc_seq fun K1 hK1 => ?_
  refine gc_region ?_
  refine g_v (.free rfl) rfl rfl (qt_assign rfl rfl) ?_
  refine g_nil ?_
  refine gk_then (hK1 _ _ ?_)
  refine gc_seq fun K2 hK2 => ?_
  refine gc_seq fun K3 hK3 => ?_
  refine gc_region ?_
  refine g_v (.free rfl) rfl rfl (qt_move rfl rfl) ?_
  refine g_v (.free rfl) rfl rfl (qt_len rfl rfl ul_elW (fun w M => lenV_G (mem_rdG M h))) ?_
  refine g_v (.free rfl) rfl rfl (qt_move rfl rfl) ?_
  refine g_nil ?_
  refine gk_then (hK3 _ _ ?_)
  refine gc_block ?_
  try simp only [List.nil_append, List.cons_append, List.append_assoc, List.set_cons_succ, List.set_cons_zero]
  refine gc_loop ([(0, _), (1, _), (7, _)] : Env) (fun s : Nat => (fun (k : Nat) => ([(8, .int .i64 (k : Int))] : Env)) s) (fun s : Nat => (fun (k : Nat) => ([] : List (Nat × Itm))) s) (fun s : Nat => (fun (k : Nat) => k ≤ ss.length ∧ ∀ j : Nat, j < k → ¬ z = atW ss (j : Int)) s) (fun s : Nat => (fun (k : Nat) => ss.length - k) s) (0) (sub_cons rfl (sub_cons rfl (sub_cons rfl (sub_cons rfl sub_nil)))) rfl ⟨Nat.zero_le _, fun j h => absurd h (by omega)⟩ ?_
  rintro k hinv KL4 hKL4
  simp only [updL, List.foldl_cons, List.foldl_nil, List.set_cons_succ, List.set_cons_zero, List.cons_append, List.nil_append] at hinv hKL4 ⊢
  obtain ⟨hk, hj⟩ := hinv
  refine gc_seq fun K5 hK5 => ?_
  refine gc_region ?_
  refine g_v (.free rfl) rfl rfl (qt_lss rfl rfl rfl) ?_
  refine g_nil ?_
  refine gk_then (hK5 _ _ ?_)
  refine gc_seq fun K6 hK6 => ?_
  refine gc_cond rfl (fun hc0 => ?_) (fun hc0 => ?_)
  · try simp only [decide_eq_true_eq, decide_eq_false_iff_not, Bool.not_eq_true', Bool.not_eq_false', Bool.not_eq_eq_eq_not, Bool.not_true, Bool.not_false, ne_eq, Decidable.not_not, Classical.not_not] at hc0
    refine gc_skip ?_
    refine gk_then (hK6 _ _ ?_)
    refine gc_seq fun K7 hK7 => ?_
    refine gc_block ?_
    refine gc_seq fun K8 hK8 => ?_
    refine gc_region ?_
    refine g_v (.free rfl) rfl rfl (qt_move rfl rfl) ?_
    refine g_v (.free rfl) rfl rfl (qt_assign rfl rfl) ?_
    refine g_nil ?_
    refine gk_then (hK8 _ _ ?_)
    refine gc_seq fun K9 hK9 => ?_
    refine gc_region ?_
    refine g_v (.free rfl) rfl rfl (qt_move rfl rfl) ?_
    refine g_v (.free rfl) rfl rfl (qt_move rfl rfl) ?_
    refine g_v (.free rfl) rfl rfl (qt_move rfl rfl) ?_
    refine g_v (.free rfl) rfl rfl (qt_index rfl rfl rfl ul_elW sz_elW (fun w M => lenA_G (mem_rdG M h)) (by omega) (by omega)) ?_
    refine g_v (.free rfl) rfl rfl (qt_loadG elW rfl rfl Tryd.underlying86 rfl (fun w M => mem_rdG M h) (by omega) (by omega)) ?_
    refine g_v (.free rfl) rfl rfl (qt_eql rfl rfl rfl) ?_
    refine g_nil ?_
    refine gk_then (hK9 _ _ ?_)
    refine gc_cond rfl (fun hc1 => ?_) (fun hc1 => ?_)
    · try simp only [decide_eq_true_eq, decide_eq_false_iff_not, Bool.not_eq_true', Bool.not_eq_false', Bool.not_eq_eq_eq_not, Bool.not_true, Bool.not_false, ne_eq, Decidable.not_not, Classical.not_not] at hc1
      refine gc_seq fun K10 hK10 => ?_
      refine gc_region ?_
      refine g_v (.free rfl) rfl rfl (qt_move rfl rfl) ?_
      refine g_v (.free rfl) rfl rfl (qt_assign rfl rfl) ?_
      refine g_nil ?_
      refine gk_then (hK10 _ _ ?_)
      refine gc_ret ?_
      refine gk_block_ret ?_
      refine gk_then_ret ?_
      refine gk_then_ret ?_
      refine gk_block_ret ?_
      refine gk_then_ret ?_
      refine ret_1 rfl rfl  (fun w M => ?_)
      rw [idxZ_at (k := k) (by omega) hj (by exact_mod_cast hc1)]; exact ⟨rfl, M.1⟩
    · try simp only [decide_eq_true_eq, decide_eq_false_iff_not, Bool.not_eq_true', Bool.not_eq_false', Bool.not_eq_eq_eq_not, Bool.not_true, Bool.not_false, ne_eq, Decidable.not_not, Classical.not_not] at hc1
      refine gc_skip ?_
      refine gk_block ?_
      refine gk_then (hK7 _ _ ?_)
      refine gc_region ?_
      refine g_v (.free rfl) rfl rfl (qt_add rfl rfl rfl (by omega)) ?_
      refine g_v (.free rfl) rfl rfl (qt_move rfl rfl) ?_
      refine g_nil ?_
      refine gk_then (gk_take 0 ?_)
      refine gk_sub ?hs_11 (hKL4 (k + 1) ?hi_11 ?hm_11)
      case hs_11 => exact (sub_cons rfl (sub_cons rfl (sub_cons rfl (sub_cons rfl sub_nil))))
      case hi_11 => exact ⟨by omega, fun j h => by rcases Nat.lt_succ_iff_lt_or_eq.1 h with h | rfl; exact hj j h; exact fun e => hc1 (by rw [e])⟩
      case hm_11 => omega
  · try simp only [decide_eq_true_eq, decide_eq_false_iff_not, Bool.not_eq_true', Bool.not_eq_false', Bool.not_eq_eq_eq_not, Bool.not_true, Bool.not_false, ne_eq, Decidable.not_not, Classical.not_not] at hc0
    refine gc_exit ?_
    refine gk_then_exit ?_
    refine gk_then_exit ?_
    refine gk_block_hit ?_
    refine gk_then (hK2 _ _ ?_)
    refine gc_seq fun K12 hK12 => ?_
    refine gc_region ?_
    refine g_v (.free rfl) rfl rfl (qt_assign rfl rfl) ?_
    refine g_nil ?_
    refine gk_then (hK12 _ _ ?_)
    refine gc_ret ?_
    refine ret_1 rfl rfl  (fun w M => ?_)
    obtain rfl : k = ss.length := by omega
    rw [idxZ_none hj]; exact ⟨rfl, M.1⟩
set_option maxHeartbeats 1000000 in
set_option maxRecDepth 100000 in
theorem containsW_any (w : World) (v : Value) (ss : List Nat) (z : Nat) (h : RdG elW w v ss) :
    Calls Tryd.prog 62 #[v, vU z] w (RetB w (decide (0 ≤ idxZ ss z))) := by
  obtain ⟨va, vc, rfl⟩ := rdG_form h
  have hl := rdG_len h
  go_enter Tryd.func62, Tryd.ntmps62
  refine gc_enter (N := 9) rfl (look_cons (k := 0) rfl (look_cons (k := 1) rfl (look_nil _))) ?_
  refine gc_seq fun K1 hK1 => ?_
  refine gc_region ?_
  refine g_v (.free rfl) rfl rfl (qt_assign rfl rfl) ?_
  refine g_nil ?_
  refine gk_then (hK1 _ _ ?_)
  refine gc_seq fun K2 hK2 => ?_
  refine gc_region ?_
  refine g_v (.free rfl) rfl rfl (qt_move rfl rfl) ?_
  refine g_v (.free rfl) rfl rfl (qt_move rfl rfl) ?_
  refine g_q (.free rfl) rfl rfl (qt_call rfl Tryd.func92 rfl (by decide) rfl (fun w M => indexW_any w _ _ _ (mem_rdG M h))) ?_
  refine g_v (.free rfl) rfl rfl (qt_geq rfl rfl rfl) ?_
  refine g_v (.free rfl) rfl rfl (qt_assign rfl rfl) ?_
  refine g_nil ?_
  refine gk_then (hK2 _ _ ?_)
  refine gc_ret ?_
  refine ret_1 rfl rfl  (fun w M => ?_)
  exact ⟨rfl, M.1⟩
end Go.Proofs.YtfnneogadciimaaDoor
