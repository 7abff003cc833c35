import Derived.Test.YtbiplocgenppoaaC13
import Derived.Test.YtbiplocgenppoaaC11
import Derived.Test.YtbiplocgenppoaaC4
set_option maxHeartbeats 1000000
set_option maxRecDepth 100000
set_option linter.unusedSimpArgs false
set_option linter.unusedVariables false
set_option linter.unusedSectionVars false
namespace Go.Proofs.Ytbiplocgenppoaa
open _root_.Go.Proofs.Try
open Go.RowKit
theorem star_parts : ∀ (L : List Itm) {J : List Itm} {w : World} {S : Nat → Prop}, Star (L ++ J) w S → ∃ S1 S2 : Nat → Prop, (∀ k, S1 k → S k) ∧ (∀ k, S2 k → S k) ∧ (∀ k, S1 k → ¬ S2 k) ∧ Star L w S1 ∧ Star J w S2
  | [], J, w, S, h => ⟨fun _ => False, S, fun _ h => h.elim, fun _ h => h, fun _ h => h.elim, trivial, h⟩
  | i :: L, J, w, S, h => by
    obtain ⟨T1, T2, t1, t2, td, h1, h2⟩ := h
    obtain ⟨S1, S2, k1, k2, kd, h3, h4⟩ := star_parts L h2
    exact ⟨fun k => T1 k ∨ S1 k, S2, fun k h => h.elim (t1 k) (fun h => t2 k (k1 k h)), fun k h => t2 k (k2 k h), fun k a b => a.elim (fun a => td k a (k2 k b)) (fun a => kd k a b), ⟨T1, S1, fun k h => .inl h, fun k h => .inr h, fun k a b => td k a (k1 k b), h1, h3⟩, h4⟩
theorem star_rows : ∀ (us : List Value) (rows : List (List Int)) {w : World} {S : Nat → Prop}, us.length = rows.length → Star (List.zipWith own1I us rows) w S →
    (∀ i, i < rows.length → Sl w 0 (us.getD i undef) (rows.getD i []) ∧ ∀ q, (us.getD i undef).ownBlock = some q → S q) ∧ ∀ i j, i < j → j < rows.length → Apart (us.getD i undef) (us.getD j undef)
  | [], [], w, S, _, _ => ⟨fun i hi => absurd hi (by simp), fun i j _ hj => absurd hj (by simp)⟩
  | [], _ :: _, w, S, h, _ => by simp at h
  | _ :: _, [], w, S, h, _ => by simp at h
  | u :: us, r :: rows, w, S, hl, hs => by
    obtain ⟨S1, S2, k1, k2, kd, h1, h2⟩ := hs
    have h1' : Own1 u r w S1 := h1
    obtain ⟨ih1, ih2⟩ := star_rows us rows (by simpa using hl) h2
    refine ⟨fun i hi => ?_, fun i j hij hj => ?_⟩
    · cases i with
      | zero => exact ⟨h1'.1, fun q hq => k1 q (h1'.2 q hq)⟩
      | succ i =>
        have := ih1 i (by simpa using hi)
        exact ⟨this.1, fun q hq => k2 q (this.2 q hq)⟩
    cases j with
    | zero => omega
    | succ j =>
      cases i with
      | zero =>
        intro q hq hq2
        exact kd q (h1'.2 q hq) ((ih1 j (by simpa using hj)).2 q hq2)
      | succ i => exact ih2 i j (by omega) (by simpa using hj)
theorem cells_rows {w0 w : World} {L : List Itm} (us : List Value) (rows : List (List Int)) (hl : us.length = rows.length) (M : Mem w0 w (L ++ List.zipWith own1I us rows)) : ∀ u ∈ us, u.cells = #[u] := by
  obtain ⟨_, S, _, _, _, _, hs⟩ := star_parts L M.2
  intro u hu
  obtain ⟨i, hi, rfl⟩ := List.getElem_of_mem hu
  have := ((star_rows us rows hl hs).1 i (by omega)).1
  obtain ⟨a, c, he⟩ := rd_form this.rd
  rw [List.getD_eq_getElem?_getD, List.getElem?_eq_getElem hi] at he
  have he : us[i] = _ := he
  rw [he]; rfl
theorem mem_rows {w0 w : World} {L : List Itm} (us : List Value) (rows : List (List Int)) (hl : us.length = rows.length) (h0 : 0 < us.length) (h5 : us.length ≤ 1000) (M : Mem w0 w (L ++ List.zipWith own1I us rows)) :
    Mem w0 (w.alloc (.cells us.toArray 24)) (L ++ [own2U (.slice (some ⟨w.heap.size, 0, none⟩) us.length us.length) us rows]) := by
  obtain ⟨S1, S2, k1, k2, kd, hL, hs⟩ := star_parts L M.2
  have hr := star_rows us rows hl hs
  have hb := below_alloc w (.cells us.toArray 24)
  refine ⟨M.1.trans (hb.mono M.1.size), star_app L _ (S1 := fun k => S1 k ∧ k < w.heap.size) (S2 := fun k => (S2 k ∧ k < w.heap.size) ∨ w.heap.size ≤ k) (fun k h => k1 k h.1) (fun k h => h.elim (fun h => k2 k h.1) (fun h => Nat.le_trans M.1.size h)) (fun k a b => b.elim (fun b => kd k a.1 b.1) (fun b => by have := a.2; omega)) (star_keep L (fun k hk h => ⟨h, hk⟩) (agree_below hb) hL) ?_⟩
  refine ⟨_, fun _ => False, fun k h => h, fun k h => h.elim, fun k _ h => h, ?_, trivial⟩
  refine ⟨hl, by omega, ⟨by simp [hl], .inr ⟨w.heap.size, us.length, us.toArray, by rw [hl], Nat.zero_le _, heap_alloc_new w _, by omega, by unfold maxLen; omega, by simp, by rw [← hl, Nat.mul_one, List.take_length]⟩⟩, fun i hi => ?_, hr.2, fun q hq => ?_⟩
  · have h1 := hr.1 i hi
    refine ⟨sl_alloc h1.1 _, fun q hq hv => ?_, fun q hq => .inl ⟨h1.2 q hq, (h1.1.1.lt q hq).2⟩⟩
    have := (h1.1.1.lt q hq).2
    simp only [Value.ownBlock, Option.some.injEq] at hv
    omega
  simp only [Value.ownBlock, Option.some.injEq] at hq; exact .inr (by omega)
theorem star_apart2 : ∀ (is : List Itm) {n m : Nat} {ca : Option Addr} {cl cc g : Nat} {u : Value} {xs : List Int} {w : World} {S : Nat → Prop}, is[n]? = some (srcI ca cl cc g) → is[m]? = some (own1I u xs) → n < m → Star is w S → u.ownBlock ≠ some g
  | [], n, m, _, _, _, _, _, _, _, _, h, _, _, _ => by simp at h
  | i :: is, 0, m + 1, ca, cl, cc, g, u, xs, w, S, h1, h2, _, hs => by
    obtain ⟨S1, S2, k1, k2, kd, ha, hb⟩ := hs
    simp only [List.getElem?_cons_zero, Option.some.injEq] at h1
    subst h1
    have hA : SrcS ca cl cc g w S1 := ha
    obtain ⟨T, t1, t2⟩ := star_get is (by simpa using h2) hb
    have hB : Own1 u xs w T := t2
    exact fun e => kd g hA.1 (t1 g (hB.2 g e))
  | i :: is, n + 1, m + 1, ca, cl, cc, g, u, xs, w, S, h1, h2, hnm, hs => by
    obtain ⟨S1, S2, k1, k2, kd, ha, hb⟩ := hs
    exact star_apart2 is (by simpa using h1) (by simpa using h2) (by omega) hb
theorem src_apart {w0 w : World} {is : List Itm} {n m : Nat} {ca : Option Addr} {cl cc g : Nat} {u : Value} {xs : List Int} (M : Mem w0 w is) (h1 : is[n]? = some (srcI ca cl cc g)) (h2 : is[m]? = some (own1I u xs)) (hnm : n < m) : u.ownBlock ≠ some g := star_apart2 is h1 h2 hnm M.2
section
variable {w0 : World} {is : List Itm} {Q : Exit → Act → World → Prop} {o : Oper} {N : Frm} {n : Nat} {e : Env} {v : Value} {d : Nat} {K : Act → World → Prop} {f : FuncId} {fn : Func} {ags : Array Operand} {ts : Array TypeId} {ca : Option Addr} {cl cc g : Nat}
theorem go_sliceR2L {L : List Itm} {t : TypeId} {x0 x1 : Operand} {u0 u1 : Value} {r0 r1 : List Int} (hd : o.dst = some d) (hN : Nat.blt d N = true) (hop : o.op = .buildSlice t 2 #[(0, x0), (1, x1)]) (h0 : evo e x0 = some u0) (h1 : evo e x1 = some u1) (ht : Try.prog.underlying t = some (.slice 24)) (his : is = L ++ [own1I u0 r0, own1I u1 r1])
    (hk : ∀ B : Nat, GK w0 (L ++ [own2U (.slice (some ⟨B, 0, none⟩) 2 2) [u0, u1] [r0, r1]]) N K ((d, .slice (some ⟨B, 0, none⟩) 2 2) :: e)) : GO w0 is N o e Q K := by
  subst his
  intro w ac M F
  have hc := cells_rows [u0, u1] [r0, r1] rfl M
  refine go_val (v := .slice (some ⟨w.heap.size, 0, none⟩) 2 2) (w' := w.alloc (.cells #[u0, u1] 24)) hd hN F ?_ fun ac F => hk _ _ ac (mem_rows [u0, u1] [r0, r1] rfl (by simp) (by simp) M) F
  intro ρ F
  have h0 := F _ _ h0; have h1 := F _ _ h1
  obtain ⟨i, hi, hz, hs, hb⟩ := info_parts infoS
  have hr : Array.range 2 = #[0, 1] := by apply Array.toList_inj.1; simp [List.range_succ]
  have hcs : (Value.slice none 0 0).cells = #[.slice none 0 0] := rfl
  have g0 : u0.cells = #[u0] := hc u0 (by simp); have g1 : u1.cells = #[u1] := hc u1 (by simp)
  simp [execOp, hop, h0, h1, Instr.buildSlice, run_underlying ht, sizeOf, typeInfo, hi, hs, Instr.fill, newRow, zeroValue, hz, hcs, g0, g1, Sem.run_bind, hr]
theorem go_sliceR3L {L : List Itm} {t : TypeId} {x0 x1 x2 : Operand} {u0 u1 u2 : Value} {r0 r1 r2 : List Int} (hd : o.dst = some d) (hN : Nat.blt d N = true) (hop : o.op = .buildSlice t 3 #[(0, x0), (1, x1), (2, x2)]) (h0 : evo e x0 = some u0) (h1 : evo e x1 = some u1) (h2 : evo e x2 = some u2) (ht : Try.prog.underlying t = some (.slice 24)) (his : is = L ++ [own1I u0 r0, own1I u1 r1, own1I u2 r2])
    (hk : ∀ B : Nat, GK w0 (L ++ [own2U (.slice (some ⟨B, 0, none⟩) 3 3) [u0, u1, u2] [r0, r1, r2]]) N K ((d, .slice (some ⟨B, 0, none⟩) 3 3) :: e)) : GO w0 is N o e Q K := by
  subst his
  intro w ac M F
  have hc := cells_rows [u0, u1, u2] [r0, r1, r2] rfl M
  refine go_val (v := .slice (some ⟨w.heap.size, 0, none⟩) 3 3) (w' := w.alloc (.cells #[u0, u1, u2] 24)) hd hN F ?_ fun ac F => hk _ _ ac (mem_rows [u0, u1, u2] [r0, r1, r2] rfl (by simp) (by simp) M) F
  intro ρ F
  have h0 := F _ _ h0; have h1 := F _ _ h1; have h2 := F _ _ h2
  obtain ⟨i, hi, hz, hs, hb⟩ := info_parts infoS
  have hr : Array.range 3 = #[0, 1, 2] := by apply Array.toList_inj.1; simp [List.range_succ]
  have hcs : (Value.slice none 0 0).cells = #[.slice none 0 0] := rfl
  have g0 : u0.cells = #[u0] := hc u0 (by simp); have g1 : u1.cells = #[u1] := hc u1 (by simp); have g2 : u2.cells = #[u2] := hc u2 (by simp)
  simp [execOp, hop, h0, h1, h2, Instr.buildSlice, run_underlying ht, sizeOf, typeInfo, hi, hs, Instr.fill, newRow, zeroValue, hz, hcs, g0, g1, g2, Sem.run_bind, hr]
theorem go_sliceR4L {L : List Itm} {t : TypeId} {x0 x1 x2 x3 : Operand} {u0 u1 u2 u3 : Value} {r0 r1 r2 r3 : List Int} (hd : o.dst = some d) (hN : Nat.blt d N = true) (hop : o.op = .buildSlice t 4 #[(0, x0), (1, x1), (2, x2), (3, x3)]) (h0 : evo e x0 = some u0) (h1 : evo e x1 = some u1) (h2 : evo e x2 = some u2) (h3 : evo e x3 = some u3) (ht : Try.prog.underlying t = some (.slice 24)) (his : is = L ++ [own1I u0 r0, own1I u1 r1, own1I u2 r2, own1I u3 r3])
    (hk : ∀ B : Nat, GK w0 (L ++ [own2U (.slice (some ⟨B, 0, none⟩) 4 4) [u0, u1, u2, u3] [r0, r1, r2, r3]]) N K ((d, .slice (some ⟨B, 0, none⟩) 4 4) :: e)) : GO w0 is N o e Q K := by
  subst his
  intro w ac M F
  have hc := cells_rows [u0, u1, u2, u3] [r0, r1, r2, r3] rfl M
  refine go_val (v := .slice (some ⟨w.heap.size, 0, none⟩) 4 4) (w' := w.alloc (.cells #[u0, u1, u2, u3] 24)) hd hN F ?_ fun ac F => hk _ _ ac (mem_rows [u0, u1, u2, u3] [r0, r1, r2, r3] rfl (by simp) (by simp) M) F
  intro ρ F
  have h0 := F _ _ h0; have h1 := F _ _ h1; have h2 := F _ _ h2; have h3 := F _ _ h3
  obtain ⟨i, hi, hz, hs, hb⟩ := info_parts infoS
  have hr : Array.range 4 = #[0, 1, 2, 3] := by apply Array.toList_inj.1; simp [List.range_succ]
  have hcs : (Value.slice none 0 0).cells = #[.slice none 0 0] := rfl
  have g0 : u0.cells = #[u0] := hc u0 (by simp); have g1 : u1.cells = #[u1] := hc u1 (by simp); have g2 : u2.cells = #[u2] := hc u2 (by simp); have g3 : u3.cells = #[u3] := hc u3 (by simp)
  simp [execOp, hop, h0, h1, h2, h3, Instr.buildSlice, run_underlying ht, sizeOf, typeInfo, hi, hs, Instr.fill, newRow, zeroValue, hz, hcs, g0, g1, g2, g3, Sem.run_bind, hr]
theorem go_sliceR5L {L : List Itm} {t : TypeId} {x0 x1 x2 x3 x4 : Operand} {u0 u1 u2 u3 u4 : Value} {r0 r1 r2 r3 r4 : List Int} (hd : o.dst = some d) (hN : Nat.blt d N = true) (hop : o.op = .buildSlice t 5 #[(0, x0), (1, x1), (2, x2), (3, x3), (4, x4)]) (h0 : evo e x0 = some u0) (h1 : evo e x1 = some u1) (h2 : evo e x2 = some u2) (h3 : evo e x3 = some u3) (h4 : evo e x4 = some u4) (ht : Try.prog.underlying t = some (.slice 24)) (his : is = L ++ [own1I u0 r0, own1I u1 r1, own1I u2 r2, own1I u3 r3, own1I u4 r4])
    (hk : ∀ B : Nat, GK w0 (L ++ [own2U (.slice (some ⟨B, 0, none⟩) 5 5) [u0, u1, u2, u3, u4] [r0, r1, r2, r3, r4]]) N K ((d, .slice (some ⟨B, 0, none⟩) 5 5) :: e)) : GO w0 is N o e Q K := by
  subst his
  intro w ac M F
  have hc := cells_rows [u0, u1, u2, u3, u4] [r0, r1, r2, r3, r4] rfl M
  refine go_val (v := .slice (some ⟨w.heap.size, 0, none⟩) 5 5) (w' := w.alloc (.cells #[u0, u1, u2, u3, u4] 24)) hd hN F ?_ fun ac F => hk _ _ ac (mem_rows [u0, u1, u2, u3, u4] [r0, r1, r2, r3, r4] rfl (by simp) (by simp) M) F
  intro ρ F
  have h0 := F _ _ h0; have h1 := F _ _ h1; have h2 := F _ _ h2; have h3 := F _ _ h3; have h4 := F _ _ h4
  obtain ⟨i, hi, hz, hs, hb⟩ := info_parts infoS
  have hr : Array.range 5 = #[0, 1, 2, 3, 4] := by apply Array.toList_inj.1; simp [List.range_succ]
  have hcs : (Value.slice none 0 0).cells = #[.slice none 0 0] := rfl
  have g0 : u0.cells = #[u0] := hc u0 (by simp); have g1 : u1.cells = #[u1] := hc u1 (by simp); have g2 : u2.cells = #[u2] := hc u2 (by simp); have g3 : u3.cells = #[u3] := hc u3 (by simp); have g4 : u4.cells = #[u4] := hc u4 (by simp)
  simp [execOp, hop, h0, h1, h2, h3, h4, Instr.buildSlice, run_underlying ht, sizeOf, typeInfo, hi, hs, Instr.fill, newRow, zeroValue, hz, hcs, g0, g1, g2, g3, g4, Sem.run_bind, hr]
theorem go_srcPick {u : Value} {xs : List Int} {m : Nat} (hd : o.dst = some d) (hN : Nat.blt d N = true) (hop : o.op = .call { callee := .value (.func 52), args := ags, argTypes := ts }) (hfn : Try.prog.funcs[52]? = some fn) (hb : fn.body.isNone = false) (hn : (fn.name == "runtime.NumGoroutine") = false)
    (hargs : evoL e ags.toList = some [.pointer (some ⟨g, 0, none⟩), u]) (hI : InB w0 (.slice ca cl cc)) (hi : is[n]? = some (srcI ca cl cc g)) (hj : is[m]? = some (own1I u xs)) (hnm : n < m) (h0 : 0 < xs.length)
    (hk : ∀ r : Int, r ∈ xs → GK w0 is N K ((d, .int .i64 r) :: e)) : GO w0 is N o e Q K := by
  intro w a M F
  have hs := src_get hI M hi
  have hu := mem_own1 M hj
  refine go_call hd hN F hop hfn hb hn hargs (pick_anyX ca cl cc w g _ u xs hs.1 hu.rd h0 (src_apart M hi hj hnm)) fun e' w' hR => ?_
  obtain ⟨r, rfl, h1, hs2, hgr⟩ := hR
  exact ⟨_, rfl, fun a F => hk r h1 w' a (mem_src M hi hs.2 hgr hs2) F⟩
end
end Go.Proofs.Ytbiplocgenppoaa
namespace Go.Proofs.Ytbiplocgenppoaa
open _root_.Go.Proofs.Try
open Go.RowKit
theorem grid_div {m a b : Nat} (h : b < m) : (m * a + b) / m = a := by
  rw [Nat.mul_add_div (by omega), Nat.div_eq_of_lt h, Nat.add_zero]
theorem grid_mod {m a b : Nat} (h : b < m) : (m * a + b) % m = b := by
  rw [Nat.mul_add_mod, Nat.mod_eq_of_lt h]
theorem grid_le {n m a b : Nat} (ha : a < n) (hb : b ≤ m) : m * a + b ≤ m * n := by
  have h1 : m * (a + 1) ≤ m * n := Nat.mul_le_mul_left _ ha
  rw [Nat.mul_succ] at h1; omega
theorem grid_divlt {n m k : Nat} (h : k < m * n) : k / m < n := Nat.div_lt_of_lt_mul h
theorem grid_modlt {n m k : Nat} (h : k < m * n) : k % m < m := by
  refine Nat.mod_lt _ ?_
  rcases Nat.eq_zero_or_pos m with h0 | h0
  · subst h0; simp at h
  exact h0
theorem grid_eq (k m : Nat) : m * (k / m) + k % m = k := Nat.div_add_mod k m
theorem mix_inj {a b x y n : Int} (hx : 0 ≤ x ∧ x < n) (hy : 0 ≤ y ∧ y < n) (h : a * n + x = b * n + y) : a = b ∧ x = y := by
  have hn : n ≠ 0 := by omega
  have h1 : (x + a * n) / n = a := by rw [Int.add_mul_ediv_right _ _ hn, Int.ediv_eq_zero_of_lt hx.1 hx.2, Int.zero_add]
  have h2 : (y + b * n) / n = b := by rw [Int.add_mul_ediv_right _ _ hn, Int.ediv_eq_zero_of_lt hy.1 hy.2, Int.zero_add]
  have h3 : a = b := by rw [← h1, ← h2]; congr 1; omega
  subst h3
  exact ⟨rfl, by omega⟩
def tab2 (φ : Nat → Nat → Int) (m a b : Nat) : List Int := tabTo (fun k => φ (k / m) (k % m)) (m * a + b)
theorem tab2_succ {φ : Nat → Nat → Int} {m a b : Nat} (h : b < m) : tab2 φ m a b ++ [φ a b] = tab2 φ m a (b + 1) := by
  unfold tab2; rw [← Nat.add_assoc, ← tabTo_succ, grid_div h, grid_mod h]
theorem tab2_row (φ : Nat → Nat → Int) (m a : Nat) : tab2 φ m a m = tab2 φ m (a + 1) 0 := rfl
theorem tab2_len (φ : Nat → Nat → Int) (m a b : Nat) : (tab2 φ m a b).length = m * a + b := tabTo_len _ _
theorem tab2_at (φ : Nat → Nat → Int) {n m i : Nat} (h : i < m * n) : at0 (tab2 φ m n 0) (i : Int) = φ (i / m) (i % m) := tabTo_at _ (by omega)
def rows2 (ψ : Nat → Nat → List Int) (m a b : Nat) : List (List Int) := rowsTo (fun k => ψ (k / m) (k % m)) (m * a + b)
theorem rows2_succ {ψ : Nat → Nat → List Int} {m a b : Nat} (h : b < m) : rows2 ψ m a b ++ [ψ a b] = rows2 ψ m a (b + 1) := by
  unfold rows2; rw [← Nat.add_assoc, ← rowsTo_succ, grid_div h, grid_mod h]
theorem rows2_row (ψ : Nat → Nat → List Int) (m a : Nat) : rows2 ψ m a m = rows2 ψ m (a + 1) 0 := by unfold rows2; rfl
theorem rows2_len (ψ : Nat → Nat → List Int) (m a b : Nat) : (rows2 ψ m a b).length = m * a + b := rowsTo_len _ _
theorem rows2_at (ψ : Nat → Nat → List Int) {n m i : Nat} (h : i < m * n) : row2 (rows2 ψ m n 0) (i : Int) = ψ (i / m) (i % m) := rowsTo_at _ (by omega)
section
variable {w0 : World} {is : List Itm} {o : Oper} {e : Env}
end
section
variable {w0 : World} {is : List Itm} {Q : Exit → Act → World → Prop} {o : Oper} {N : Frm} {e : Env} {v : Value} {d : Nat} {K : Act → World → Prop} {f : FuncId} {fn : Func} {ags : Array Operand} {ts : Array TypeId} {vs : List Value}
end
end Go.Proofs.Ytbiplocgenppoaa
namespace Go.Proofs.Ytbiplocgenppoaa
open _root_.Go.Proofs.Try
open Go.RowKit
section
variable {w0 : World} {is : List Itm} {ops : Array Oper} {Q : Exit → Act → World → Prop} {o : Oper} {rest : List Oper} {N : Frm} {n m : Nat} {e : Env} {v u : Value} {d : Nat} {K : Act → World → Prop} {f : FuncId} {fn : Func} {ags : Array Operand} {ts : Array TypeId} {vs : List Value}
end
end Go.Proofs.Ytbiplocgenppoaa
namespace Go.Proofs.Ytbiplocgenppoaa
open _root_.Go.Proofs.Try
open Go.RowKit
def RowOk (rows : List (List Int)) (b : Int) (i : Nat) : Prop := (row2 rows (i : Int)).length = rows.length ∧ AllP b (row2 rows (i : Int))
def SquareP (rows : List (List Int)) (b : Int) : Prop := ∀ i : Nat, i < rows.length → RowOk rows b i
theorem sq_at {rows : List (List Int)} {b : Int} (h : SquareP rows b) {i j : Nat} (hi : i < rows.length) (hj : j < rows.length) : 0 ≤ at0 (row2 rows (i : Int)) (j : Int) ∧ at0 (row2 rows (i : Int)) (j : Int) < b :=
 allP_at (h i hi).2 (by rw [(h i hi).1]; exact hj)
def FitP (c : Cat) : Prop := c.ob ≤ 8 ∧ c.s.length ≤ 40
theorem specFits_any (w : World) (v : Value) (c : Cat) (h : RdC w v c) :
  Calls Try.prog 84 #[v] w (RetB w (bP (FitP c))) := by
 have h0 := h
 obtain ⟨va, vb, vc, vd, ve, vf, vg, vh, rfl, h1, h2, h3, h4, _⟩ := h.lists
 go_enter func84, Try.ntmps84
 refine gc_enter (N := 12) rfl (look_cons (k := 0) rfl (look_nil _)) ?_
 refine gc_sr fun K1 hK1 => ?_
 refine gop fun K3 hK3 => ?_
 refine go_box rfl rfl rfl rfl rfl ?_
 intro B2
 refine hK3 _ _ ?_
 refine gas ?_
 refine gnt (hK1 _ _ ?_)
 refine gc_sr fun K4 hK4 => ?_
 refine gv (qtf underlying27 (z := 0) (off := 0)) ?_
 refine gv (qtl underlying2 (n := 0)) ?_
 refine gv (qt_leq rfl rfl rfl) ?_
 refine g_splitv (.free rfl) rfl rfl (qt_move rfl rfl) (fun hs1_3 => ?_) (fun hs1_3 => ?_)
 ·try simp only [sA] at hs1_3
  refine gvh (qtf underlying27 (z := 0) (off := 1)) ?_
  refine gvh (qtl underlying24 (n := 0)) ?_
  refine gvh (qln (fun w M => lenV_rd h1)) ?_
  refine gvh (qt_leq rfl rfl rfl) ?_
  refine gv (qt_pick_t rfl rfl rfl) ?_
  refine gas ?_
  refine gnt (hK4 _ _ ?_)
  refine gc_ret ?_
  refine ret_1 rfl rfl  (fun w M => ?_)
  rw [show bP (FitP c) = decide ((c.s.length : Int) ≤ 40) from by rw [← bP_dec]; exact bP_congr ⟨fun h => by have := h.2; omega, fun h => ⟨by omega, by omega⟩⟩]; exact ⟨rfl, M.1⟩
 try simp only [sA] at hs1_3
 refine gsk ?_
 refine gsk ?_
 refine gsk ?_
 refine gsk ?_
 refine gv (qt_pick_f rfl rfl rfl) ?_
 refine gas ?_
 refine gnt (hK4 _ _ ?_)
 refine gc_ret ?_
 refine ret_1 rfl rfl  (fun w M => ?_)
 rw [bP_f (fun h : FitP c => by have := h.1; omega)]; exact ⟨rfl, M.1⟩
end Go.Proofs.Ytbiplocgenppoaa
namespace Go.Proofs.Ytbiplocgenppoaa
open _root_.Go.Proofs.Try
open Go.RowKit
end Go.Proofs.Ytbiplocgenppoaa
namespace Go.Proofs.Ytbiplocgenppoaa
open _root_.Go.Proofs.Try
open Go.RowKit
end Go.Proofs.Ytbiplocgenppoaa
namespace Go.Proofs.Ytbiplocgenppoaa
open _root_.Go.Proofs.Try
open Go.RowKit
def Own2H (v : Value) (us : List Value) (rows : List (List Int)) (i : Nat) (w : World) (S : Nat → Prop) : Prop :=
  us.length = rows.length ∧ rows.length ≤ 5000000000000 ∧ w.ownsRow 0 24 1 v rows.length us ∧
    (∀ j, j < rows.length → j ≠ i → Sl w 0 (us.getD j undef) (rows.getD j []) ∧ Apart (us.getD j undef) v ∧ ∀ q, (us.getD j undef).ownBlock = some q → S q) ∧
    (∀ j k, j < k → k < rows.length → j ≠ i → k ≠ i → Apart (us.getD j undef) (us.getD k undef)) ∧ ∀ q, v.ownBlock = some q → S q
theorem own2H_loc (v : Value) (us : List Value) (rows : List (List Int)) (i : Nat) : Loc (Own2H v us rows i) where
  keep hs ha h := by
    obtain ⟨h1, h2, h3, h4, h5, h6⟩ := h
    exact ⟨h1, h2, own_agree h3 fun q hq e => ha q hq (h6 q e), fun j hj hji => ⟨⟨own_agree (h4 j hj hji).1.1 fun q hq e => ha q hq ((h4 j hj hji).2.2 q e), (h4 j hj hji).1.2⟩, (h4 j hj hji).2.1, fun q hq => hs q ((h4 j hj hji).1.1.lt q hq).2 ((h4 j hj hji).2.2 q hq)⟩, h5, fun q hq => hs q (h3.lt q hq).2 (h6 q hq)⟩
def own2HI (v : Value) (us : List Value) (rows : List (List Int)) (i : Nat) : Itm := ⟨_, own2H_loc v us rows i⟩
theorem star_hole {is : List Itm} {w : World} {S : Nat → Prop} {n : Nat} {v : Value} {us : List Value} {rows : List (List Int)} {i : Nat} (h : Star is w S) (hi : is[n]? = some (own2U v us rows)) (hlt : i < rows.length) :
    Star (is.set n (own2HI v us rows i) ++ [own1I (us.getD i undef) (rows.getD i [])]) w S := by
  have hn : n < is.length := (List.getElem?_eq_some_iff.1 hi).1
  obtain ⟨S1, S2, k1, k2, kd, hp, h2⟩ := star_pick is hi h
  obtain ⟨h1, h2', h3, h4, h5, h6⟩ := (hp : Own2U v us rows w S1)
  have hr := h4 i hlt
  refine star_app _ _ (S1 := fun k => S k ∧ (us.getD i undef).ownBlock ≠ some k) (S2 := fun k => (us.getD i undef).ownBlock = some k) (fun k h => h.1) (fun k h => k1 k (hr.2.2 k h)) (fun k h h' => h.2 h') ?_ ?_
  · refine star_unpick _ (by simpa using hn) ⟨fun k => S1 k ∧ (us.getD i undef).ownBlock ≠ some k, S2, fun k h => ⟨k1 k h.1, h.2⟩, fun k h => ⟨k2 k h, fun e => kd k (hr.2.2 k e) h⟩, fun k h h' => kd k h.1 h', ?_, by simpa using h2⟩
    refine ⟨h1, h2', h3, fun j hj hji => ⟨(h4 j hj).1, (h4 j hj).2.1, fun q hq => ⟨(h4 j hj).2.2 q hq, fun e => ?_⟩⟩, fun j k hjk hk _ _ => h5 j k hjk hk, fun q hq => ⟨h6 q hq, fun e => hr.2.1 q e hq⟩⟩
    rcases Nat.lt_or_ge j i with h | h
    · exact h5 j i h hlt q hq e
    exact h5 i j (by omega) hj q e hq
  exact ⟨_, fun _ => False, fun k h => h, fun k h => h.elim, fun k _ h => h, (⟨hr.1, fun q hq => hq⟩ : Own1 _ _ _ _), trivial⟩
theorem own2H_store {w : World} {S1 S2 : Nat → Prop} {g n cap k : Nat} {us : List Value} {rows : List (List Int)} {r : List Int} {u : Value} (h : Own2H (.slice (some ⟨g, 0, none⟩) n cap) us rows k w S1) (hk : k < rows.length)
    (hu : Own1 u r w S2) (hd : ∀ q, S1 q → ¬ S2 q) : Own2U (.slice (some ⟨g, 0, none⟩) n cap) (us.set k u) (rows.set k r) (w.setCell ⟨g, k, none⟩ u) (fun q => S1 q ∨ S2 q) ∧ FrS S1 w (w.setCell ⟨g, k, none⟩ u) := by
  obtain ⟨h1, h2, h3, h4, h5, h6⟩ := h
  have hgS : S1 g := h6 g rfl
  have hn : n = rows.length := by
    rcases h3.2 with ⟨hv, _⟩ | ⟨g', cap', cur, hv, _⟩
    · simp at hv
    simp only [Value.slice.injEq] at hv
    exact hv.2.1
  subst hn
  have hst := h3.stored k u
  have hgr := hst.2
  have hne : ∀ v : Value, (∀ q, v.ownBlock = some q → q ≠ g) → v.ownBlock = none ∨ v.ownBlock ≠ some g := fun v hv => by
    cases hb0 : v.ownBlock with
    | none => exact .inl rfl
    | some q => exact .inr fun e => hv q hb0 (by simpa using e)
  have hu0 : Sl (w.setCell ⟨g, k, none⟩ u) 0 u r := sl_kept hu.1 hgr (hne u fun q hq e => hd g hgS (by rw [← e]; exact hu.2 q hq))
  refine ⟨⟨by simp [h1], by simpa using h2, by simpa using hst.1, fun i hi => ?_, fun i j hij hj => ?_, fun q hq => .inl (h6 q hq)⟩, ⟨hgr.os, hgr.tape, hgr.output, hgr.size, fun q hq hs => hgr.block q hq fun e => hs (by rw [Option.some.inj e]; exact hgS)⟩⟩
  · simp only [List.length_set] at hi
    rw [getD_set2 us k u undef i (by omega), getD_set2 rows k r [] i (by omega)]
    by_cases hik : i = k
    · rw [if_pos hik, if_pos hik]
      exact ⟨hu0, fun q hq hv => by
        simp only [Value.ownBlock, Option.some.injEq] at hv
        exact hd g hgS (by rw [hv]; exact hu.2 q hq), fun q hq => .inr (hu.2 q hq)⟩
    rw [if_neg hik, if_neg hik]
    exact ⟨sl_kept (h4 i hi hik).1 hgr (hne _ fun q hq e => (h4 i hi hik).2.1 q hq (by simp [Value.ownBlock, e])), (h4 i hi hik).2.1, fun q hq => .inl ((h4 i hi hik).2.2 q hq)⟩
  simp only [List.length_set] at hj
  rw [getD_set2 us k u undef i (by omega), getD_set2 us k u undef j (by omega)]
  by_cases hik : i = k
  · rw [if_pos hik, if_neg (by omega)]
    exact fun q hq hq2 => hd q ((h4 j hj (by omega)).2.2 q hq2) (hu.2 q hq)
  rw [if_neg hik]
  by_cases hjk : j = k
  · rw [if_pos hjk]
    exact fun q hq hq2 => hd q ((h4 i (by omega) hik).2.2 q hq) (hu.2 q hq2)
  rw [if_neg hjk]
  exact h5 i j hij hj hik hjk
section
variable {w0 : World} {is : List Itm} {ops : Array Oper} {Q : Exit → Act → World → Prop} {o : Oper} {rest : List Oper} {N : Frm} {e : Env} {v : Value} {d : Nat} {K : Act → World → Prop}
theorem mem_hole {w : World} {n : Nat} {us : List Value} {rows : List (List Int)} {i : Int} (M : Mem w0 w is) (hi : is[n]? = some (own2U v us rows)) (h0 : 0 ≤ i) (h1 : i < rows.length) : Mem w0 w (is.set n (own2HI v us rows i.toNat) ++ [own1I (us.getD i.toNat undef) (row2 rows i)]) :=
  ⟨M.1, star_hole M.2 hi (by omega)⟩
theorem go_shift {is' : List Itm} (h : ∀ w, Mem w0 w is → Mem w0 w is') (hk : GO w0 is' N o e Q K) : GO w0 is N o e Q K := fun w a M F => hk w a (h w M) F
theorem go_appendHole {s x : Operand} {t : TypeId} {n m : Nat} {us : List Value} {rows : List (List Int)} {u : Value} {y i : Int} (hd : o.dst = some d) (hN : Nat.blt d N = true) (hop : o.op = .call { callee := .builtin .append, args := #[s, x], argTypes := #[t, t] }) (ht : Try.prog.underlying t = some (.slice 2))
    (hs : evo e s = some (us.getD i.toNat undef)) (hx : evo e x = some u) (hi : is[n]? = some (own2U v us rows)) (hj : is[m]? = some (own1I u [y])) (hnm : n ≠ m) (h0 : 0 ≤ i) (h1 : i < rows.length) (hn : (row2 rows i).length + 1 ≤ 17592186044415)
    (hk : ∀ a cap, GK w0 (is.set n (own2HI v us rows i.toNat) ++ [own1I (.slice a (row2 rows i ++ [y]).length cap) (row2 rows i ++ [y])]) N K ((d, .slice a (row2 rows i ++ [y]).length cap) :: e)) : GO w0 is N o e Q K := by
  have hm : m < is.length := (List.getElem?_eq_some_iff.1 hj).1
  refine go_shift (fun w M => mem_hole (i := i) M hi h0 h1) (go_append (n := is.length) (m := m) (xs := row2 rows i) (y := y) hd hN hop ht hs hx ?_ ?_ hn fun a cap => ?_)
  · rw [List.getElem?_append_right (by simp)]; simp
  · rw [List.getElem?_append_left (by simpa using hm), List.getElem?_set_ne hnm]; exact hj
  have := hk a cap
  have he : (is.set n (own2HI v us rows i.toNat) ++ [own1I (us.getD i.toNat undef) (row2 rows i)]).set is.length (own1I (.slice a (row2 rows i ++ [y]).length cap) (row2 rows i ++ [y])) = is.set n (own2HI v us rows i.toNat) ++ [own1I (.slice a (row2 rows i ++ [y]).length cap) (row2 rows i ++ [y])] := by
    rw [List.set_append_right _ _ (by simp)]; simp
  rw [he]; exact this
theorem lenA_H {n k : Nat} {us : List Value} {rows : List (List Int)} (h : is[n]? = some (own2HI v us rows k)) {w : World} (M : Mem w0 w is) : LenA v rows.length := by
  obtain ⟨S, _, hb⟩ := mem_get M h
  rcases (hb : Own2H v us rows k w S).2.2.1.2 with ⟨hv, hn⟩ | ⟨g, cap, cur, hv, _⟩
  · exact ⟨none, 0, by rw [hn]; exact hv, fun h => by omega⟩
  exact ⟨_, cap, hv, fun _ => ⟨g, 0, rfl⟩⟩
theorem go_storeH {t : TypeId} {x y : Operand} {n m m' k : Nat} {us : List Value} {rows : List (List Int)} {r : List Int} {u : Value} {i : Int} (hd : o.dst = none) (hop : o.op = .store t x y) (hx : evo e x = some (eltP v i)) (hy : evo e y = some u)
    (hs : (Try.prog.info? t).map (·.size) = some 1) (hi : is[n]? = some (own2HI v us rows k)) (hj : (is.eraseIdx n)[m']? = some (own1I u r)) (hE : (is.set m trivI).eraseIdx n = (is.eraseIdx n).set m' trivI) (hik : k = i.toNat) (h0 : 0 ≤ i) (h1 : i < rows.length)
    (hk : GK w0 ((is.set m trivI).set n (own2U v (us.set i.toNat u) (rows.set i.toNat r))) N K e) : GO w0 is N o e Q K := by
  subst hik
  intro w ac M F
  obtain ⟨S1, S2, k1, k2, kd, hp, hq, hset⟩ := star_two M.2 hi hj hE
  have hp' : Own2H v us rows i.toNat w S1 := hp
  have hq' : Own1 u r w S2 := hq
  obtain ⟨ua, uc, rfl⟩ := rd_form hq'.rd
  have hform := hp'.2.2.1.2
  rcases hform with ⟨_, hn⟩ | ⟨g, cap, cur, rfl, _, hg, hnc, hcm, hcs, htk⟩
  · omega
  obtain ⟨hnew, hfr⟩ := own2H_store hp' (by omega) hq' kd
  have hlt : i.toNat < cur.size := by rw [hcs]; omega
  have hcell : w.cell? ⟨g, i.toNat, none⟩ = some cur[i.toNat] := by rw [cell_of_row w g _ cur _ (0, 0) hg]; simp [hlt]
  have hfz : w.frozen? ⟨g, i.toNat, none⟩ = false := frozen_of_row w g _ _ _ hg
  refine go_skip (w' := w.setCell ⟨g, i.toNat, none⟩ (.slice ua r.length uc)) hd F ?_ fun ac F => hk _ ac ⟨below_frS M.1 hfr (Nat.le_refl _) k1, hset _ _ hfr hnew⟩ F
  intro ρ F; have hx := F _ _ hx; have hy := F _ _ hy
  have he : eltP (.slice (some ⟨g, 0, none⟩) rows.length cap) i = .pointer (some ⟨g, i.toNat, none⟩) := by simp [eltP]
  simp [execOp, hop, hx, hy, he, run_store1 hs (u := .slice ua r.length uc) rfl rfl hcell hfz]
end
end Go.Proofs.Ytbiplocgenppoaa
