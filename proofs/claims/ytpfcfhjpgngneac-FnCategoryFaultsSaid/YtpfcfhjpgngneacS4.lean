import Derived.Test.YtpfcfhjpgngneacS3
import Derived.Test.YtpfcfhjpgngneacS1
import Derived.Laws.Cover3
import Derived.Laws.Bits64b
import Derived.StillTailTactics
import Derived.Maps.AppendAt
import Derived.WideKeyRuns
set_option linter.unusedSimpArgs false
set_option linter.unusedVariables false
set_option linter.unusedSectionVars false
namespace Go.Proofs.Ytpfcfhjpgngneac
open Go.RowKit
section
variable {w0 : World} {is : List Itm} {ops : Array Oper} {Q : Exit → Act → World → Prop} {o : Oper} {rest : List Oper} {N : Nat} {e : Env} {v : Value} {d : Nat} {K : Act → World → Prop}
theorem g_split {b : Bool} (hw : Want ops e o true) (hd : o.dst = some d) (hN : Nat.blt d N = true) (hq : QT w0 is N o e (.bool b)) (ht : b = true → G w0 is N ops Q rest ((d, (.bool true)) :: e)) (hf : b = false → G w0 is N ops Q rest ((d, (.bool false)) :: e)) : G w0 is N ops Q (o :: rest) e := by
  cases b
  · exact g_q hw hd hN hq (hf rfl)
  · exact g_q hw hd hN hq (ht rfl)
theorem g_splitv {b : Bool} (hw : Want ops e o true) (hd : o.dst = some d) (hN : Nat.blt d N = true) (hq : QV w0 is o e (.bool b)) (ht : b = true → G w0 is N ops Q rest ((d, (.bool true)) :: e)) (hf : b = false → G w0 is N ops Q rest ((d, (.bool false)) :: e)) : G w0 is N ops Q (o :: rest) e := g_split hw hd hN (qt_of hq) ht hf
theorem gd_splitv {Q : Act → Prop} {b : Bool} (hw : Want ops e o true) (hd : o.dst = some d) (hN : Nat.blt d N = true) (hq : QV w0 is o e (.bool b)) (ht : b = true → GD w0 is N ops Q rest ((d, (.bool true)) :: e)) (hf : b = false → GD w0 is N ops Q rest ((d, (.bool false)) :: e)) : GD w0 is N ops Q (o :: rest) e := by
  cases b
  · exact gd_q hw hd hN (qt_of hq) (hf rfl)
  · exact gd_q hw hd hN (qt_of hq) (ht rfl)
theorem ga_splitv {is0 : List Itm} {fuel : Nat} {listed : Array Bool} {b : Bool} (i : Nat) (hi : ops[i]? = some o) (h1 : Region.noSelect ops = true) (h2 : Region.free .any ops listed i = true) (h3 : (Region.ready .any ops listed).contains i = true) (hw : Want ops e o true) (hd : o.dst = some d) (hN : Nat.blt d N = true) (hq : QV w0 is0 o e (.bool b))
    (hQ : ∀ v c a w, Q (.panic c) (a.put o.dst v) w → Q (.panic c) a w) (ht : b = true → GA w0 is0 is N ops Q fuel (listed.setIfInBounds i true) ((d, .bool true) :: e)) (hf : b = false → GA w0 is0 is N ops Q fuel (listed.setIfInBounds i true) ((d, .bool false) :: e)) : GA w0 is0 is N ops Q (fuel + 1) listed e := by
  cases b
  · exact ga_v i hi h1 h2 h3 hw hd hN hq (hQ _) (hf rfl)
  · exact ga_v i hi h1 h2 h3 hw hd hN hq (hQ _) (ht rfl)
theorem g_load2 {x : Operand} {t : TypeId} {u : Value} {xs : List (List Int)} {i : Int} {td : TypeDesc} (hw : Want ops e o true) (hd : o.dst = some d) (hN : Nat.blt d N = true) (hop : o.op = .load t x) (hx : evo e x = some (eltP u i)) (ht : Try.prog.underlying t = some td) (ha : aggT td = false)
    (hr : Rd2 w0 u xs) (h0 : 0 ≤ i) (h1 : i < xs.length) (hk : ∀ a cap, Rd w0 (.slice a (row2 xs i).length cap) (row2 xs i) → G w0 is N ops Q rest ((d, .slice a (row2 xs i).length cap) :: e)) : G w0 is N ops Q (o :: rest) e := by
  obtain ⟨r, hr1, hq⟩ := qt_load2 (o := o) (is := is) hop hx ht ha hr h0 h1
  obtain ⟨ra, rc, rfl⟩ := rd_form hr1
  exact g_v hw hd hN hq (hk ra rc hr1)
theorem gd_load2 {Q : Act → Prop} {x : Operand} {t : TypeId} {u : Value} {xs : List (List Int)} {i : Int} {td : TypeDesc} (hw : Want ops e o true) (hd : o.dst = some d) (hN : Nat.blt d N = true) (hop : o.op = .load t x) (hx : evo e x = some (eltP u i)) (ht : Try.prog.underlying t = some td) (ha : aggT td = false)
    (hr : Rd2 w0 u xs) (h0 : 0 ≤ i) (h1 : i < xs.length) (hk : ∀ a cap, Rd w0 (.slice a (row2 xs i).length cap) (row2 xs i) → GD w0 is N ops Q rest ((d, .slice a (row2 xs i).length cap) :: e)) : GD w0 is N ops Q (o :: rest) e := by
  obtain ⟨r, hr1, hq⟩ := qt_load2 (o := o) (is := is) hop hx ht ha hr h0 h1
  obtain ⟨ra, rc, rfl⟩ := rd_form hr1
  exact gd_v hw hd hN hq (hk ra rc hr1)
theorem lenA_U {n : Nat} {us : List Value} {xs : List (List Int)} (h : is[n]? = some (own2U v us xs)) {w : World} (M : Mem w0 w is) : LenA v xs.length := lenA_rd2 (mem_rdU M h)
theorem lenV_U {n : Nat} {us : List Value} {xs : List (List Int)} (h : is[n]? = some (own2U v us xs)) {w : World} (M : Mem w0 w is) : LenV v xs.length := rd2_form (mem_rdU M h)
theorem lenV_row {n : Nat} {us : List Value} {xs : List (List Int)} (h : is[n]? = some (own2U v us xs)) {i : Int} (h0 : 0 ≤ i) (h1 : i < xs.length) {w : World} (M : Mem w0 w is) : LenV (us.getD i.toNat undef) (row2 xs i).length := rd_form (mem_rowU M h h0 h1)
theorem lenA_row {n : Nat} {us : List Value} {xs : List (List Int)} (h : is[n]? = some (own2U v us xs)) {i : Int} (h0 : 0 ≤ i) (h1 : i < xs.length) {w : World} (M : Mem w0 w is) : LenA (us.getD i.toNat undef) (row2 xs i).length := lenA_rd (mem_rowU M h h0 h1)
theorem qt_loadU {x : Operand} {t : TypeId} {u : Value} {us : List Value} {xs : List (List Int)} {i : Int} {n : Nat} {td : TypeDesc} (hop : o.op = .load t x) (hx : evo e x = some (eltP u i)) (ht : Try.prog.underlying t = some td) (ha : aggT td = false)
    (hi : is[n]? = some (own2U u us xs)) (h0 : 0 ≤ i) (h1 : i < xs.length) : QV w0 is o e (us.getD i.toNat undef) := by
  intro w ρ M F
  have hx := F _ _ hx
  obtain ⟨S, _, hb⟩ := mem_2U M hi
  obtain ⟨hu, _, ⟨_, hor⟩, _⟩ := hb
  rcases hor with ⟨_, hn⟩ | ⟨g, cap, cur, hv, _, hg, hnc, hcm, hcs, htk⟩
  · omega
  · subst hv
    have hlt : i.toNat < us.length := by omega
    have hc : w.cell? ⟨g, 0 + i.toNat, none⟩ = some (us.getD i.toNat undef) := by
      rw [cell_of_row w g (0 + i.toNat) cur _ (0, 0) hg]
      have h2 : (cur.toList.take (xs.length * 1))[i.toNat]? = some (us.getD i.toNat undef) := by
        rw [htk]; simp [List.getD_eq_getElem?_getD, List.getElem?_eq_getElem hlt]
      rw [List.getElem?_take] at h2
      split at h2
      · simpa using h2
      · cases h2
    rw [Nat.zero_add] at hc
    simp [execOp, hop, hx, eltP, run_load1 ht ha hc]
theorem same_q {f : FuncId} {vs : Array Value} {w : World} (h : Calls Try.prog f vs w (Same w v)) : Calls Try.prog f vs w (fun e w' => e = .returned v ∧ Below w.heap.size w w') :=
  h.mono fun e w' h => ⟨h.1, by rw [← h.2]; exact Below.refl _ _⟩
end
theorem sub_nil {e : Env} : Sub [] e := trivial
theorem sub_cons {e r : Env} {k : Nat} {v : Value} (h : look e k = some v) (hs : Sub r e) : Sub ((k, v) :: r) e := ⟨h, hs⟩
def isNilV : Value → Bool | .slice none _ _ => true | _ => false
section
variable {w0 : World} {is : List Itm} {ops : Array Oper} {Q : Exit → Act → World → Prop} {o : Oper} {rest : List Oper} {N : Nat} {e : Env} {v : Value} {d : Nat} {K : Act → World → Prop}
theorem go_appendL {s x : Operand} {t : TypeId} {n : Nat} {xs ys : List Int} {ua : Option Addr} {un uc : Nat} (hd : o.dst = some d) (hN : Nat.blt d N = true) (hop : o.op = .call { callee := .builtin .append, args := #[s, x], argTypes := #[t, t] }) (ht : Try.prog.underlying t = some (.slice 2))
    (hs : evo e s = some v) (hx : evo e x = some (.slice ua un uc)) (hi : is[n]? = some (own1I v xs)) (hj : ∀ w, Mem w0 w is → Rd w (.slice ua un uc) ys) (hnn : isNilV (.slice ua un uc) = false) (hn : xs.length + ys.length ≤ 17592186044415)
    (hk : ∀ a cap, GK w0 (is.set n (own1I (.slice a (xs ++ ys).length cap) (xs ++ ys))) N K ((d, .slice a (xs ++ ys).length cap) :: e)) : GO w0 is N o e Q K := by
  intro w ac M F
  obtain ⟨ad, cap, hv, _, hc⟩ := hj w M
  simp only [Value.slice.injEq] at hv
  obtain ⟨rfl, rfl, rfl⟩ := hv
  have hbo : ∃ b off bl, ua = some ⟨b, off, bl⟩ ∧ (0 < ys.length → bl = none) := by
    cases ua with
    | none => simp [isNilV] at hnn
    | some q =>
      obtain ⟨b, off, bl⟩ := q
      refine ⟨b, off, bl, rfl, fun h0 => ?_⟩
      obtain ⟨b', off', ha, _⟩ := hc 0 h0
      simp only [Option.some.injEq, Addr.mk.injEq] at ha
      exact ha.2.2
  obtain ⟨b, off, bl, rfl, hbl⟩ := hbo
  obtain ⟨S, hS, hp, hset⟩ := mem_set M hi
  obtain ⟨i, hi', hz, hs1, hb⟩ := info_parts info64
  obtain ⟨v', w', hr, hown, hgrow, _, hat⟩ := run_append_own_at (P := Try.prog) w 0 t o.type 2 i (.int .i64 0) 1 8 ht hi' hz hs1 hb rfl (by decide) v xs.length (xs.map (Value.int .i64)) hp.1.1 ⟨b, off, bl⟩ ys.length uc (ys.map (Value.int .i64)) (by simp) (fun j u hu => by
    have hjl : j < ys.length := by
      have := (List.getElem?_eq_some_iff.1 hu).1
      simpa using this
    have hbl' := hbl (by omega)
    subst hbl'
    obtain ⟨b', off', ha, _, hcell⟩ := hc j hjl
    simp only [Option.some.injEq, Addr.mk.injEq] at ha
    obtain ⟨rfl, rfl, _⟩ := ha
    have := hcell j hjl
    simp only [List.getElem?_map, List.getElem?_eq_getElem hjl, Option.map_some, Option.some.injEq] at hu
    subst hu
    simp only [List.getD_eq_getElem?_getD, List.getElem?_eq_getElem hjl, Option.getD_some] at this
    have hadd : (⟨b, off, none⟩ : Addr).add j = ⟨b, off + j, none⟩ := by unfold Addr.add; split <;> simp_all
    rw [hadd]; exact this) (by simp [Value.oneCell']) (by unfold maxLen; omega) (by omega) (Nat.zero_le _)
  have hsl : Sl w' 0 v' (xs ++ ys) := ⟨by simpa using hown, by simpa using hn⟩
  obtain ⟨va, vc, rfl, _⟩ := sl_form hsl
  refine go_val (v := .slice va (xs ++ ys).length vc) (w' := w') hd hN F ?_ fun ac F => hk va vc w' ac (hset w' (own1I (.slice va (xs ++ ys).length vc) (xs ++ ys)) (frS_grown hgrow hp.2) ⟨hsl, fun q hq => ?_⟩) F
  · intro ρ F; have hs := F _ _ hs; have hx := F _ _ hx
    simp only [execOp, hop, resolve, invoke, builtin, Sem.run_bind, Sem.run_pure, Result.andThen_ok, List.map_toArray, List.map_cons, List.map_nil, hs, hx]
    rw [hr]
    rfl
  · rcases hat with hat | hat
    · exact .inl (hp.2 q (by rw [← hat]; exact hq))
    · rw [hat] at hq
      simp only [Option.some.injEq] at hq
      exact .inr (by omega)
end
theorem ulE1 : Try.prog.underlying 24 = some (.slice (Try.prog.elem 24)) := by kernel_rfl
theorem szE1 : (Try.prog.info? (Try.prog.elem 24)).map (fun i => i.size) = some 1 := by kernel_rfl
theorem ulE2 : Try.prog.underlying 25 = some (.slice (Try.prog.elem 25)) := by kernel_rfl
theorem szE2 : (Try.prog.info? (Try.prog.elem 25)).map (fun i => i.size) = some 1 := by kernel_rfl
theorem bt_arrowEnds {a b : Int} : Try.prog.built 102 [(0, .int .i64 a), (1, .int .i64 b)] = some #[.int .i64 a, .int .i64 b] := by kernel_rfl
theorem bt_arrowPair {a b : Int} : Try.prog.built 133 [(0, .int .i64 a), (1, .int .i64 b)] = some #[.int .i64 a, .int .i64 b] := by kernel_rfl
theorem bt_Category {ob : Int} {a1 a2 a3 a4 : Option Addr} {n1 n2 n3 n4 k1 k2 k3 k4 : Nat} : Try.prog.built 27 [(0, .int .i64 ob), (1, .slice a1 n1 k1), (2, .slice a2 n2 k2), (3, .slice a3 n3 k3), (4, .slice a4 n4 k4)] = some #[.int .i64 ob, .slice a1 n1 k1, .slice a2 n2 k2, .slice a3 n3 k3, .slice a4 n4 k4] := by kernel_rfl
theorem bt_fault {a b c d : Int} : Try.prog.built 108 [(0, .int .i64 a), (1, .int .i64 b), (2, .int .i64 c), (3, .int .i64 d)] = some #[.int .i64 a, .int .i64 b, .int .i64 c, .int .i64 d] := by kernel_rfl
theorem bt01_fault {a b : Int} : Try.prog.built 108 [(0, .int .i64 a), (1, .int .i64 b)] = some #[.int .i64 a, .int .i64 b, .int .i64 0, .int .i64 0] := by kernel_rfl
theorem bt0_fault : Try.prog.built 108 [] = some #[.int .i64 0, .int .i64 0, .int .i64 0, .int .i64 0] := by kernel_rfl
end Go.Proofs.Ytpfcfhjpgngneac
namespace Go.Proofs.Ytpfcfhjpgngneac
open Go.RowKit
theorem triv_loc : Loc (fun (_ : World) (_ : Nat → Prop) => True) where
  keep _ _ _ := trivial
def trivI : Itm := ⟨_, triv_loc⟩
theorem star_unpick : ∀ (is : List Itm) {n : Nat} {i : Itm} {w : World} {S : Nat → Prop}, n < is.length → Star (i :: is.eraseIdx n) w S → Star (is.set n i) w S
  | [], n, i, _, _, h, _ => by simp at h
  | j :: is, 0, i, w, S, h, hs => hs
  | j :: is, n + 1, i, w, S, h, hs => by
    obtain ⟨S1, S2, k1, k2, hd, h1, T1, T2, t1, t2, td, a1, a2⟩ := hs
    refine ⟨T1, fun k => S1 k ∨ T2 k, fun k h => k2 k (t1 k h), fun k h => h.elim (k1 k) fun h => k2 k (t2 k h), fun k a b => b.elim (fun b => hd k b (t1 k a)) (td k a), a1, ?_⟩
    exact star_unpick is (by simpa using h) ⟨S1, T2, fun k h => .inl h, fun k h => .inr h, fun k a b => hd k a (t2 k b), h1, a2⟩
theorem star_two {is : List Itm} {n m m' : Nat} {i j : Itm} {w : World} {S : Nat → Prop} (h : Star is w S) (hi : is[n]? = some i) (hj : (is.eraseIdx n)[m']? = some j) (hE : (is.set m trivI).eraseIdx n = (is.eraseIdx n).set m' trivI) :
    ∃ S1 S2 : Nat → Prop, (∀ k, S1 k → S k) ∧ (∀ k, S2 k → S k) ∧ (∀ k, S1 k → ¬ S2 k) ∧ i.p w S1 ∧ j.p w S2 ∧
      ∀ (w' : World) (i' : Itm), FrS S1 w w' → i'.p w' (fun k => S1 k ∨ S2 k) → Star ((is.set m trivI).set n i') w' S := by
  obtain ⟨S1, R, a1, a2, a3, a4, a5⟩ := star_pick is hi h
  obtain ⟨S2, R', b1, b2, b3, b4, b5⟩ := star_pick _ hj a5
  have hn : n < is.length := (List.getElem?_eq_some_iff.1 hi).1
  have hm : m' < (is.eraseIdx n).length := (List.getElem?_eq_some_iff.1 hj).1
  refine ⟨S1, S2, a1, fun k h => a2 k (b1 k h), fun k h h' => a3 k h (b1 k h'), a4, b4, fun w' i' hf hi' => ?_⟩
  refine star_unpick _ (by simpa using hn) ?_
  rw [hE]
  refine ⟨fun k => S1 k ∨ S2 k, fun k => R' k ∧ k < w.heap.size, fun k h => h.elim (a1 k) fun h => a2 k (b1 k h), fun k h => a2 k (b2 k h.1), fun k h h' => h.elim (fun h => a3 k h (b2 k h'.1)) (fun h => b3 k h h'.1), hi', ?_⟩
  refine star_unpick _ hm ⟨fun _ => False, fun k => R' k ∧ k < w.heap.size, fun k h => h.elim, fun k h => h, fun k h => h.elim, trivial, ?_⟩
  exact star_keep _ (fun k hk h => ⟨h, hk⟩) (fun k hk h => hf.block k hk fun e => a3 k e (b2 k h)) b5
theorem all_next0 {p : Nat → Prop} {k : Nat} (h : ∀ j, j < k → p j) (hk : p k) : ∀ j, j < k + 1 → p j := fun j hj => by
  rcases Nat.lt_or_ge j k with h1 | h1
  · exact h j h1
  · rw [show j = k from by omega]; exact hk
section
variable {w0 : World} {is : List Itm} {ops : Array Oper} {Q : Exit → Act → World → Prop} {o : Oper} {rest : List Oper} {N : Nat} {e : Env} {v : Value} {d : Nat} {K : Act → World → Prop}
theorem run_store1 {t : TypeId} {a : Addr} {w : World} {u old : Value} (hs : (Try.prog.info? t).map (·.size) = some 1) (h1 : u.oneCell' = true) (h2 : u.cells = #[u]) (hc : w.cell? a = some old) (hf : w.frozen? a = false) :
    (Instr.storeAt t (.pointer (some a)) u).run Try.prog w = .ok () (w.setCell a u) := by
  obtain ⟨inf, hi2, hz⟩ := Option.map_eq_some_iff.1 hs
  have hadd : a.add 0 = a := by simp [Addr.add]
  simp [Instr.storeAt, Instr.sureAddr, storeVar, sizeOf, typeInfo, hi2, hz, h2, storeCells, hadd, run_store _ _ _ _ _ h1, hc, hf]
theorem go_make1 {x y : Operand} {t : TypeId} {n : Nat} (hd : o.dst = some d) (hN : Nat.blt d N = true) (hop : o.op = .makeSlice t x y) (ht : Try.prog.underlying t = some (.slice 2)) (hx : evo e x = some (.int .i64 (n : Int))) (hy : evo e y = some (.int .i64 (n : Int))) (hn : n ≤ 17592186044415)
    (hk : ∀ B : Nat, GK w0 (is ++ [own1I (.slice (some ⟨B, 0, none⟩) n n) (List.replicate n 0)]) N K ((d, .slice (some ⟨B, 0, none⟩) n n) :: e)) : GO w0 is N o e Q K := by
  intro w ac M F
  obtain ⟨i, hi, hz, hs, hb⟩ := info_parts info64
  obtain ⟨w', hr, hown, hgrow⟩ := run_make_full (P := Try.prog) w w.heap.size t 2 i (.int .i64 0) 1 ht hi hz hs .i64 .i64 n (by rw [hb]; omega) (by unfold maxLen; omega) (Nat.le_refl _)
  have hs' : Sl w' w.heap.size (.slice (some ⟨w.heap.size, 0, none⟩) n n) (List.replicate n 0) := by
    refine ⟨?_, by simpa using hn⟩
    simp only [Value.cells, Nat.mul_one] at hown
    rw [madeOne] at hown
    simpa using hown
  refine go_val (v := .slice (some ⟨w.heap.size, 0, none⟩) n n) (w' := w') hd hN F ?_ fun ac F => hk w.heap.size w' ac (mem_new M ((Below.refl _ _).grown hgrow (Nat.le_refl _) (by simp)) (own1_of hs')) F
  intro ρ F; have hx := F _ _ hx; have hy := F _ _ hy
  simp only [execOp, hop, hx, hy, Sem.run_bind, hr, Result.andThen_ok]
  rfl
theorem go_store1 {t : TypeId} {x y : Operand} {n : Nat} {xs : List Int} {z i : Int} (hd : o.dst = none) (hop : o.op = .store t x y) (hx : evo e x = some (eltP v i)) (hy : evo e y = some (.int .i64 z))
    (hs : (Try.prog.info? t).map (·.size) = some 1) (hi : is[n]? = some (own1I v xs)) (h0 : 0 ≤ i) (h1 : i < xs.length)
    (hk : GK w0 (is.set n (own1I v (xs.set i.toNat z))) N K e) : GO w0 is N o e Q K := by
  intro w ac M F
  obtain ⟨S, hS, hp, hset⟩ := mem_set M hi
  have hp' : Own1 v xs w S := hp
  obtain ⟨a, cap, rfl, hf⟩ := sl_form hp'.1
  obtain ⟨g, rfl⟩ := hf i.toNat (by omega)
  have hcell := sl_cell hp'.1 (j := i.toNat) (by omega)
  have hfz := sl_frozen hp'.1 i.toNat
  have hst := sl_set hp'.1 i.toNat z
  refine go_skip (w' := w.setCell ⟨g, i.toNat, none⟩ (.int .i64 z)) hd F ?_ fun ac F => hk _ ac (hset _ _ ⟨hst.2.os, hst.2.tape, hst.2.output, hst.2.size, fun q hq hs => hst.2.block q hq fun e => hs (by rw [Option.some.inj e]; exact hp'.2 g rfl)⟩ ⟨hst.1, fun q hq => .inl (hp'.2 q hq)⟩) F
  intro ρ F; have hx := F _ _ hx; have hy := F _ _ hy
  have he : eltP (.slice (some ⟨g, 0, none⟩) xs.length cap) i = .pointer (some ⟨g, i.toNat, none⟩) := by simp [eltP]
  simp [execOp, hop, hx, hy, he, run_store1 hs (u := .int .i64 z) rfl rfl hcell hfz]
end
end Go.Proofs.Ytpfcfhjpgngneac
namespace Go.Proofs.Ytpfcfhjpgngneac
open Go.RowKit
section
variable {w0 : World} {is : List Itm} {ops : Array Oper} {Q : Exit → Act → World → Prop} {o : Oper} {rest : List Oper} {N : Nat} {e : Env} {v : Value} {d : Nat} {K : Act → World → Prop}
variable {f : FuncId} {fn : Func} {ags : Array Operand} {ts : Array TypeId} {vs : List Value}
end
end Go.Proofs.Ytpfcfhjpgngneac
set_option linter.unusedSimpArgs false
set_option linter.unusedVariables false
set_option linter.unusedSectionVars false
namespace Go.Proofs.Ytpfcfhjpgngneac
open Go.RowKit
section
variable {w0 : World} {is is0 : List Itm} {ops : Array Oper} {Q : Exit → Act → World → Prop} {o : Oper} {rest : List Oper} {N : Nat} {e : Env} {v : Value} {d : Nat} {K : Act → World → Prop} {fuel : Nat} {listed : Array Bool}
theorem gv (hq : QV w0 is o e v) (hk : G w0 is N ops Q rest ((d, v) :: e)) (hw : Want ops e o true := by exact .free rfl) (hd : o.dst = some d := by rfl) (hN : Nat.blt d N = true := by rfl) : G w0 is N ops Q (o :: rest) e := g_v hw hd hN hq hk
theorem gvh (hq : QV w0 is o e v) (hk : G w0 is N ops Q rest ((d, v) :: e)) (hw : Want ops e o true := by exact .held _ _ _ rfl rfl rfl) (hd : o.dst = some d := by rfl) (hN : Nat.blt d N = true := by rfl) : G w0 is N ops Q (o :: rest) e := g_v hw hd hN hq hk
theorem gdv {Q : Act → Prop} (hq : QV w0 is o e v) (hk : GD w0 is N ops Q rest ((d, v) :: e)) (hw : Want ops e o true := by exact .free rfl) (hd : o.dst = some d := by rfl) (hN : Nat.blt d N = true := by rfl) : GD w0 is N ops Q (o :: rest) e := gd_v hw hd hN hq hk
theorem gdvh {Q : Act → Prop} (hq : QV w0 is o e v) (hk : GD w0 is N ops Q rest ((d, v) :: e)) (hw : Want ops e o true := by exact .held _ _ _ rfl rfl rfl) (hd : o.dst = some d := by rfl) (hN : Nat.blt d N = true := by rfl) : GD w0 is N ops Q (o :: rest) e := gd_v hw hd hN hq hk
theorem gov (hq : QV w0 is o e v) (hk : GK w0 is N K ((d, v) :: e)) (hd : o.dst = some d := by rfl) (hN : Nat.blt d N = true := by rfl) : GO w0 is N o e Q K := go_v hd hN hq hk
theorem gsk (hk : G w0 is N ops Q rest ((d, undef) :: e)) (hw : Want ops e o false := by exact .not _ _ _ _ rfl rfl rfl rfl) (hd : o.dst = some d := by rfl) (hN : Nat.blt d N = true := by rfl) : G w0 is N ops Q (o :: rest) e := g_skip hw hd hN hk
theorem gdsk {Q : Act → Prop} (hk : GD w0 is N ops Q rest ((d, undef) :: e)) (hw : Want ops e o false := by exact .not _ _ _ _ rfl rfl rfl rfl) (hd : o.dst = some d := by rfl) (hN : Nat.blt d N = true := by rfl) : GD w0 is N ops Q (o :: rest) e := gd_skip hw hd hN hk
theorem gav (i : Nat) (hi : ops[i]? = some o) (hq : QV w0 is0 o e v) (hk : GA w0 is0 is N ops Q fuel (listed.setIfInBounds i true) ((d, v) :: e)) (h1 : Region.noSelect ops = true := by kernel_rfl) (h2 : Region.free .any ops listed i = true := by kernel_rfl) (h3 : (Region.ready .any ops listed).contains i = true := by kernel_rfl)
    (hw : Want ops e o true := by exact .free rfl) (hd : o.dst = some d := by rfl) (hN : Nat.blt d N = true := by rfl) (hQ : ∀ c a w, Q (.panic c) (a.put o.dst v) w → Q (.panic c) a w := by exact fun _ _ _ h => h) : GA w0 is0 is N ops Q (fuel + 1) listed e := ga_v i hi h1 h2 h3 hw hd hN hq hQ hk
theorem gop (h : ∀ K : Act → World → Prop, (∀ is e, G w0 is N ops Q rest e → GK w0 is N K e) → GO w0 is N o e Q K) (hw : Want ops e o true := by exact .free rfl) : G w0 is N ops Q (o :: rest) e := g_op hw h
theorem gao (i : Nat) (h : ∀ K : Act → World → Prop, (∀ is e, (∀ w, Mem w0 w is → Mem w0 w is0) → GA w0 is0 is N ops Q fuel (listed.setIfInBounds i true) e → GK w0 is N K e) → GO w0 is N o e Q K) (hi : ops[i]? = some o := by rfl) (hr : Region.ready .any ops listed = [i] := by kernel_rfl) (hw : Want ops e o true := by exact .free rfl) : GA w0 is0 is N ops Q (fuel + 1) listed e := ga_op i hr hi hw h
theorem gc_sr {Q : Exit → Act → World → Prop} {id : Nat} {l' : List Oper} {y : Code} (h : ∀ K : Act → World → Prop, (∀ is e, GC w0 is N y Q e → GK w0 is N K e) → G w0 is N l'.toArray (Exit.then K Q) l' e) : GC w0 is N (.seq (.region id l'.toArray false) y) Q e := gc_seq fun K hK => gc_region (h K hK)
theorem gc_loopT {c : Code} {σ : Type} {Q : Exit → Act → World → Prop} (C : Env) (F : σ → Env × List (Nat × Itm) × Prop × Nat) (s0 : σ) (hC : Sub ((F s0).1 ++ C) e) (ht : updL is (F s0).2.1 = is) (h0 : (F s0).2.2.1)
    (round : ∀ s, (F s).2.2.1 → ∀ K : Act → World → Prop, (∀ s', (F s').2.2.1 → (F s').2.2.2 < (F s).2.2.2 → GK w0 (updL is (F s').2.1) N K ((F s').1 ++ C)) → GC w0 (updL is (F s).2.1) N c (Exit.then K Q) ((F s).1 ++ C)) :
    GC w0 is N (.loop c) Q e := gc_loop C (fun s => (F s).1) (fun s => (F s).2.1) (fun s => (F s).2.2.1) (fun s => (F s).2.2.2) s0 hC ht h0 round
theorem gnt (h : GK w0 is N K e) : G w0 is N ops (Exit.then K Q) [] e := g_nil (gk_then h)
theorem gm {x : Operand} (hk : G w0 is N ops Q rest ((d, v) :: e)) (hop : o.op = .move x := by rfl) (hx : evo e x = some v := by rfl) (hw : Want ops e o true := by exact .free rfl) (hd : o.dst = some d := by rfl) (hN : Nat.blt d N = true := by rfl) : G w0 is N ops Q (o :: rest) e := g_v hw hd hN (qt_move hop hx) hk
theorem gas {x : Operand} (hk : G w0 is N ops Q rest ((d, v) :: e)) (hop : o.op = .assign x := by rfl) (hx : evo e x = some v := by rfl) (hw : Want ops e o true := by exact .free rfl) (hd : o.dst = some d := by rfl) (hN : Nat.blt d N = true := by rfl) : G w0 is N ops Q (o :: rest) e := g_v hw hd hN (qt_assign hop hx) hk
theorem sA : (∀ {p : Prop} [Decidable p], (decide p = true) = p) ∧ (∀ {p : Prop} [Decidable p], (decide p = false) ↔ ¬ p) ∧ (∀ {a b : Bool}, ((!a) = b) ↔ (a = !b)) ∧ ((!true) = false) ∧ ((!false) = true) ∧ (∀ {p : Prop} [Decidable p], ¬ ¬ p ↔ p) ∧ (∀ (a b : Int), (a ≠ b) = ¬ a = b) ∧ (∀ (a b : Nat), (a ≠ b) = ¬ a = b) ∧ (∀ (a b : Bool), (a ≠ b) = ¬ a = b) :=
  ⟨decide_eq_true_eq, decide_eq_false_iff_not, Bool.not_eq_eq_eq_not, rfl, rfl, Decidable.not_not, fun _ _ => rfl, fun _ _ => rfl, fun _ _ => rfl⟩
theorem sL : (∀ (l : List Itm), [] ++ l = l) ∧ (∀ (a : Itm) (l m : List Itm), a :: l ++ m = a :: (l ++ m)) ∧ (∀ (l m k : List Itm), l ++ m ++ k = l ++ (m ++ k)) ∧ (∀ (a b : Itm) (n : Nat) (l : List Itm), (a :: l).set (n + 1) b = a :: l.set n b) ∧ (∀ (a b : Itm) (l : List Itm), (a :: l).set 0 b = b :: l) ∧ (∀ (l : Env), [] ++ l = l) ∧ (∀ (a : Nat × Value) (l m : Env), a :: l ++ m = a :: (l ++ m)) :=
  ⟨fun _ => rfl, fun _ _ _ => rfl, List.append_assoc, fun _ _ _ _ => rfl, fun _ _ _ => rfl, fun _ => rfl, fun _ _ _ => rfl⟩
theorem sU : (∀ (l : List Itm) (p : Nat × Itm) (c : List (Nat × Itm)), updL l (p :: c) = updL (l.set p.1 p.2) c) ∧ (∀ (l : List Itm), updL l [] = l) := ⟨fun _ _ _ => rfl, fun _ => rfl⟩
theorem qtf {x : Operand} {s : TypeId} {n B j : Nat} {fs : Array Field} {f : Field} (hs : Try.prog.underlying s = some (.struct fs)) {z off : Nat} (hop : o.op = .fieldAddr s x n := by rfl) (hx : evo e x = some (.pointer (some ⟨B, j, none⟩)) := by rfl) (hf : fs[n]? = some f := by rfl) (hz : (Try.prog.info? f.type).map (·.size) = some (z + 1) := by kernel_rfl) (ho : f.offset = off := by rfl) : QV w0 is o e (.pointer (some ⟨B, j + off, none⟩)) := qt_field hop hx hs hf hz ho
theorem qtl {x : Operand} {t tb : TypeId} {n B j : Nat} {cs : List Value} {td : TypeDesc} (ht : Try.prog.underlying t = some td) (hop : o.op = .load t x := by rfl) (hx : evo e x = some (.pointer (some ⟨B, j, none⟩)) := by rfl) (hi : is[n]? = some (bxI B tb cs) := by rfl) (hv : cs[j]? = some v := by rfl) (hd : aggT td = false := by rfl) : QV w0 is o e v := qt_loadB hop hx ht hd hi hv
theorem qts {x : Operand} {t tb : TypeId} {n B : Nat} {cs : List Value} {td : TypeDesc} (ht : Try.prog.underlying t = some td) (hop : o.op = .load t x := by rfl) (hx : evo e x = some (.pointer (some ⟨B, 0, none⟩)) := by rfl) (hi : is[n]? = some (bxI B tb cs) := by rfl) (hd : aggT td = true := by rfl) (hs : (Try.prog.info? t).map (·.size) = some cs.length := by kernel_rfl) : QV w0 is o e (.agg cs.toArray) := qt_loadS hop hx ht hd hs hi
theorem qti {x y : Operand} {n : Nat} {i : Int} (hl : ∀ w, Mem w0 w is → LenA v n) (hop : o.op = .indexAddr 24 x y := by rfl) (hx : evo e x = some v := by rfl) (hy : evo e y = some (.int .i64 i) := by rfl) (h0 : 0 ≤ i := by omega) (h1 : i < (n : Int) := by omega) : QV w0 is o e (eltP v i) := qt_index hop hx hy ulE1 szE1 hl h0 h1
theorem qti2 {x y : Operand} {n : Nat} {i : Int} (hl : ∀ w, Mem w0 w is → LenA v n) (hop : o.op = .indexAddr 25 x y := by rfl) (hx : evo e x = some v := by rfl) (hy : evo e y = some (.int .i64 i) := by rfl) (h0 : 0 ≤ i := by omega) (h1 : i < (n : Int) := by omega) : QV w0 is o e (eltP v i) := qt_index hop hx hy ulE2 szE2 hl h0 h1
theorem qtd {x : Operand} {u : Value} {xs : List Int} {i : Int} (hr : ∀ w, Mem w0 w is → Rd w u xs) (hop : o.op = .load 2 x := by rfl) (hx : evo e x = some (eltP u i) := by rfl) (h0 : 0 ≤ i := by omega) (h1 : i < xs.length := by omega) : QV w0 is o e (.int .i64 (at0 xs i)) := qt_load1 hop hx Try.underlying2 rfl hr h0 h1
theorem qln {x : Operand} {n : Nat} (hl : ∀ w, Mem w0 w is → LenV v n) (hop : o.op = .call { callee := .builtin .len, args := #[x], argTypes := #[24] } := by rfl) (hx : evo e x = some v := by rfl) : QV w0 is o e (.int .i64 (n : Int)) := qt_len hop hx ulE1 hl
end
end Go.Proofs.Ytpfcfhjpgngneac
set_option linter.unusedSimpArgs false
set_option linter.unusedVariables false
set_option linter.unusedSectionVars false
namespace Go.Proofs.Ytpfcfhjpgngneac
open Go.RowKit
theorem u64_nat (z : Int) : ∃ y : Nat, IntKind.u64.wrap z = (y : Int) ∧ y < 18446744073709551616 := by
  have h : IntKind.u64.wrap z = z % 18446744073709551616 := rfl
  refine ⟨(z % 18446744073709551616).toNat, by rw [h]; omega, by omega⟩
theorem mask24 (y : Nat) (hy : y < 18446744073709551616) : ∃ m : Nat, bits .and .u64 ((y : Int) / 8589934592) 16777215 = (m : Int) ∧ m ≤ 16777215 := by
  refine ⟨(y / 8589934592) &&& 16777215, ?_, Nat.and_le_right⟩
  have := bits_and_u64_nat (y / 8589934592) 16777215 (by omega) (by omega)
  simpa using this
theorem src_put {w : World} {g i : Nat} {u : Value} {cs : Array Value} {t : TypeId} (hg : w.heap[g]? = some (.cells cs t (0, 0))) : w.grownBy (w.setCell ⟨g, i, none⟩ u) (some g) :=
  ⟨rfl, rfl, rfl, by simp, fun k _ hk => heap_setCell_other w ⟨g, i, none⟩ k u (fun e => hk (by rw [e]))⟩
def InB (w : World) (v : Value) : Prop :=
  ∃ (a : Option Addr) (len cap : Nat), v = .slice a len cap ∧ len ≤ 9223372036854775807 ∧
    ∀ j, j < len → ∃ b off, a = some ⟨b, off, none⟩ ∧ b < w.heap.size ∧ ∀ i, i < len → ∃ x : Int, w.cell? ⟨b, off + i, none⟩ = some (.int .u8 x) ∧ 0 ≤ x ∧ x < 256
theorem inb_below {w w' : World} {v : Value} (hb : Below w.heap.size w w') (h : InB w v) : InB w' v := by
  obtain ⟨a, len, cap, hv, hl, hc⟩ := h
  refine ⟨a, len, cap, hv, hl, fun j hj => ?_⟩
  obtain ⟨b, off, ha, hbs, hcell⟩ := hc j hj
  refine ⟨b, off, ha, Nat.lt_of_lt_of_le hbs hb.size, fun i hi => ?_⟩
  obtain ⟨x, hx, hx0, hx1⟩ := hcell i hi
  exact ⟨x, (hb.cell (p := ⟨b, off + i, none⟩) hbs).trans hx, hx0, hx1⟩
theorem code_up {w w' : World} {a : Option Addr} {len : Nat} (hb : Below w.heap.size w w')
    (hc : ∀ j, j < len → ∃ b off, a = some ⟨b, off, none⟩ ∧ b < w.heap.size ∧ ∀ i, i < len → ∃ x : Int, w.cell? ⟨b, off + i, none⟩ = some (.int .u8 x) ∧ 0 ≤ x ∧ x < 256) :
    ∀ j, j < len → ∃ b off, a = some ⟨b, off, none⟩ ∧ b < w.heap.size ∧ ∀ i, i < len → ∃ x : Int, w'.cell? ⟨b, off + i, none⟩ = some (.int .u8 x) ∧ 0 ≤ x ∧ x < 256 := fun j hj => by
  obtain ⟨b, off, ha, hbs, hcell⟩ := hc j hj
  refine ⟨b, off, ha, hbs, fun i hi => ?_⟩
  obtain ⟨x, hx, hx0, hx1⟩ := hcell i hi
  exact ⟨x, (hb.cell (p := ⟨b, off + i, none⟩) hbs).trans hx, hx0, hx1⟩
theorem below_src {w a b : World} {g : Nat} (h : Below w.heap.size w a) (hg : w.heap.size ≤ g) (k : a.grownBy b (some g)) : Below w.heap.size w b :=
  h.grown k h.size fun j hj => by have : g = j := by simpa using hj
                                  omega
end Go.Proofs.Ytpfcfhjpgngneac
set_option linter.unusedSimpArgs false
set_option linter.unusedVariables false
set_option linter.unusedSectionVars false
namespace Go.Proofs.Ytpfcfhjpgngneac
open Go.RowKit
theorem star_two' {is : List Itm} {n m m' : Nat} {i j : Itm} {w : World} {S : Nat → Prop} (h : Star is w S) (hi : is[n]? = some i) (hj : (is.eraseIdx n)[m']? = some j) (hE : (is.set m trivI).eraseIdx n = (is.eraseIdx n).set m' trivI) :
    ∃ S1 S2 : Nat → Prop, (∀ k, S1 k → S k) ∧ (∀ k, S2 k → S k) ∧ (∀ k, S1 k → ¬ S2 k) ∧ i.p w S1 ∧ j.p w S2 ∧
      ∀ (w' : World) (i' : Itm), FrS S1 w w' → i'.p w' (fun k => (S1 k ∨ S2 k) ∨ w.heap.size ≤ k) → Star ((is.set m trivI).set n i') w' (fun k => S k ∨ w.heap.size ≤ k) := by
  obtain ⟨S1, R, a1, a2, a3, a4, a5⟩ := star_pick is hi h
  obtain ⟨S2, R', b1, b2, b3, b4, b5⟩ := star_pick _ hj a5
  have hn : n < is.length := (List.getElem?_eq_some_iff.1 hi).1
  have hm : m' < (is.eraseIdx n).length := (List.getElem?_eq_some_iff.1 hj).1
  refine ⟨S1, S2, a1, fun k h => a2 k (b1 k h), fun k h h' => a3 k h (b1 k h'), a4, b4, fun w' i' hf hi' => ?_⟩
  refine star_unpick _ (by simpa using hn) ?_
  rw [hE]
  refine ⟨fun k => (S1 k ∨ S2 k) ∨ w.heap.size ≤ k, fun k => R' k ∧ k < w.heap.size, fun k h => h.elim (fun h => .inl (h.elim (a1 k) fun h => a2 k (b1 k h))) .inr, fun k h => .inl (a2 k (b2 k h.1)), fun k h h' => h.elim (fun h => h.elim (fun h => a3 k h (b2 k h'.1)) (fun h => b3 k h h'.1)) (fun h => by have := h'.2; omega), hi', ?_⟩
  refine star_unpick _ hm ⟨fun _ => False, fun k => R' k ∧ k < w.heap.size, fun k h => h.elim, fun k h => h, fun k h => h.elim, trivial, ?_⟩
  exact star_keep _ (fun k hk h => ⟨h, hk⟩) (fun k hk h => hf.block k hk fun e => a3 k e (b2 k h)) b5
section
variable {w0 : World} {is : List Itm} {ops : Array Oper} {Q : Exit → Act → World → Prop} {o : Oper} {rest : List Oper} {N : Nat} {e : Env} {v : Value} {d : Nat} {K : Act → World → Prop}
theorem go_sliceR0 {t : TypeId} (hd : o.dst = some d) (hN : Nat.blt d N = true) (hop : o.op = .buildSlice t 0 #[]) (ht : Try.prog.underlying t = some (.slice 24))
    (hk : ∀ B : Nat, GK w0 (is ++ [own2U (.slice (some ⟨B, 0, none⟩) 0 0) [] []]) N K ((d, .slice (some ⟨B, 0, none⟩) 0 0) :: e)) : GO w0 is N o e Q K := by
  intro w ac M F
  have hU : Own2U (.slice (some ⟨w.heap.size, 0, none⟩) 0 0) [] [] (w.alloc (.cells #[] 24)) (fun k => w.heap.size ≤ k) := by
    refine ⟨rfl, by decide, ⟨by simp, .inr ⟨w.heap.size, 0, #[], rfl, Nat.zero_le _, heap_alloc_new w _, Nat.le_refl _, by unfold maxLen; omega, by simp, by simp⟩⟩, fun i hi => absurd hi (by simp), fun i j hij hj => absurd hj (by simp), fun q hq => ?_⟩
    simp [Value.ownBlock] at hq; omega
  refine go_val (v := .slice (some ⟨w.heap.size, 0, none⟩) 0 0) (w' := w.alloc (.cells #[] 24)) hd hN F ?_ fun ac F => hk _ _ ac (mem_new M (below_alloc w _) hU) F
  intro ρ F
  obtain ⟨i, hi, hz, hs, hb⟩ := info_parts infoS
  simp [execOp, hop, Instr.buildSlice, run_underlying ht, sizeOf, typeInfo, hi, hs, Instr.fill, newRow, zeroValue, hz, Value.cells, Sem.run_bind, range0]
theorem go_sliceR1 {t : TypeId} {x : Operand} {m : Nat} {u : Value} {r : List Int} (hd : o.dst = some d) (hN : Nat.blt d N = true) (hop : o.op = .buildSlice t 1 #[(0, x)]) (hx : evo e x = some u) (ht : Try.prog.underlying t = some (.slice 24)) (hi : is[m]? = some (own1I u r))
    (hk : ∀ B : Nat, GK w0 (is.set m (own2U (.slice (some ⟨B, 0, none⟩) 1 1) [u] [r])) N K ((d, .slice (some ⟨B, 0, none⟩) 1 1) :: e)) : GO w0 is N o e Q K := by
  intro w ac M F
  obtain ⟨S, hS, hp, hset⟩ := mem_set M hi
  have hp' : Own1 u r w S := hp
  obtain ⟨ua, uc, rfl⟩ := rd_form hp'.rd
  have hU : Own2U (.slice (some ⟨w.heap.size, 0, none⟩) 1 1) [.slice ua r.length uc] [r] (w.alloc (.cells #[.slice ua r.length uc] 24)) (fun k => S k ∨ w.heap.size ≤ k) := by
    refine ⟨rfl, by simp, ⟨by simp, .inr ⟨w.heap.size, 1, #[.slice ua r.length uc], rfl, Nat.zero_le _, heap_alloc_new w _, Nat.le_refl _, by unfold maxLen; omega, by simp, by simp⟩⟩, fun i hi => ?_, fun i j hij hj => by simp at hj; omega, fun q hq => ?_⟩
    · obtain rfl : i = 0 := by simpa using hi
      refine ⟨sl_alloc hp'.1 _, fun q hq hv => ?_, fun q hq => .inl (hp'.2 q hq)⟩
      have := (hp'.1.1.lt q hq).2
      simp only [Value.ownBlock, Option.some.injEq] at hv
      omega
    · simp only [Value.ownBlock, Option.some.injEq] at hq; exact .inr (by omega)
  refine go_val (v := .slice (some ⟨w.heap.size, 0, none⟩) 1 1) (w' := w.alloc (.cells #[.slice ua r.length uc] 24)) hd hN F ?_ fun ac F => hk _ _ ac (hset _ _ (frS_new (below_alloc w _)) hU) F
  intro ρ F; have hx := F _ _ hx
  obtain ⟨i, hi, hz, hs, hb⟩ := info_parts infoS
  simp [execOp, hop, hx, Instr.buildSlice, run_underlying ht, sizeOf, typeInfo, hi, hs, Instr.fill, newRow, zeroValue, hz, Value.cells, Sem.run_bind, range1]
theorem go_appendRow {s x : Operand} {t : TypeId} {n m m' : Nat} {us : List Value} {rows : List (List Int)} {r : List Int} {u ru : Value} (hd : o.dst = some d) (hN : Nat.blt d N = true) (hop : o.op = .call { callee := .builtin .append, args := #[s, x], argTypes := #[t, t] }) (ht : Try.prog.underlying t = some (.slice 24))
    (hs : evo e s = some v) (hx : evo e x = some u) (hi : is[n]? = some (own2U v us rows)) (hj : (is.eraseIdx n)[m']? = some (own2U u [ru] [r])) (hE : (is.set m trivI).eraseIdx n = (is.eraseIdx n).set m' trivI) (hn : rows.length + 1 ≤ 5000000000000)
    (hk : ∀ a cap, GK w0 ((is.set m trivI).set n (own2U (.slice a (rows ++ [r]).length cap) (us ++ [ru]) (rows ++ [r]))) N K ((d, .slice a (rows ++ [r]).length cap) :: e)) : GO w0 is N o e Q K := by
  intro w ac M F
  obtain ⟨S1, S2, k1, k2, kd, hp, hq, hset⟩ := star_two' M.2 hi hj hE
  have hp' : Own2U v us rows w S1 := hp
  have hq' : Own2U u [ru] [r] w S2 := hq
  obtain ⟨i, hi', hz, hs1, hb⟩ := info_parts infoS
  obtain ⟨hul, hl2, hown, hrows, hpair, hvS⟩ := hp'
  have hr2 := hq'.2.2.2.1 0 (by simp)
  simp only [List.getD_cons_zero] at hr2
  have hown2 := hq'.2.2.1
  obtain ⟨ra, rc, hru, _⟩ := sl_form hr2.1
  rcases hown2.2 with ⟨_, h⟩ | ⟨g2, c2, cur2, rfl, _⟩
  · simp at h
  obtain ⟨v', w', hr, hown', hgrow, _, hat⟩ := run_append_own_at (P := Try.prog) w 0 t o.type 24 i (.slice none 0 0) 1 24 ht hi' hz hs1 hb rfl (by decide) v rows.length us hown ⟨g2, 0, none⟩ 1 c2 [ru] rfl (fun j z hz => by
    have hj0 : j < [ru].length := by
      rcases Nat.lt_or_ge j [ru].length with h | h
      · exact h
      · rw [List.getElem?_eq_none h] at hz; cases hz
    rw [Addr.add_lit, Nat.zero_add, hown2.cellAt j (by simpa using hj0)]; exact hz) (by rw [hru]; simp [Value.oneCell']) (by unfold maxLen; omega) (by omega) (Nat.zero_le _)
  have hvlt : ∀ q, v.ownBlock = some q → q < w.heap.size := fun q hq => (hown.lt q hq).2
  have hk1 : ∀ q, v'.ownBlock = some q → S1 q ∨ w.heap.size ≤ q := fun q hq => by
    rcases hat with h | h
    · exact .inl (hvS q (by rw [← h]; exact hq))
    · rw [h] at hq; simp only [Option.some.injEq] at hq; exact .inr (by omega)
  have hneR : ru.ownBlock = none ∨ ru.ownBlock ≠ v.ownBlock := by
    cases hb0 : ru.ownBlock with
    | none => exact .inl rfl
    | some q => exact .inr fun e => kd q (hvS q e.symm) (hr2.2.2 q hb0)
  have hfin : Own2U v' (us ++ [ru]) (rows ++ [r]) w' (fun k => (S1 k ∨ S2 k) ∨ w.heap.size ≤ k) := by
    refine ⟨by simp [hul], by simpa using hn, by simpa using hown', fun i hi => ?_, fun i j hij hj => ?_, fun q hq => (hk1 q hq).imp .inl id⟩
    · simp only [List.length_append, List.length_singleton] at hi
      rcases Nat.lt_or_ge i rows.length with h | h
      · rw [show (us ++ [ru]).getD i undef = us.getD i undef from by rw [List.getD_eq_getElem?_getD, List.getD_eq_getElem?_getD, List.getElem?_append_left (by omega)], show (rows ++ [r]).getD i [] = rows.getD i [] from by rw [List.getD_eq_getElem?_getD, List.getD_eq_getElem?_getD, List.getElem?_append_left h]]
        obtain ⟨h1, h2, h3⟩ := hrows i h
        refine ⟨sl_kept h1 hgrow (apart_ne h2), fun q hq hv => ?_, fun q hq => .inl (.inl (h3 q hq))⟩
        rcases hat with ha | ha
        · exact h2 q hq (by rw [← ha]; exact hv)
        · rw [ha] at hv; simp only [Option.some.injEq] at hv; have := (h1.1.lt q hq).2; omega
      · obtain rfl : i = rows.length := by omega
        rw [show (us ++ [ru]).getD rows.length undef = ru from by rw [List.getD_eq_getElem?_getD, List.getElem?_append_right (by omega)]; simp [hul], show (rows ++ [r]).getD rows.length [] = r from by rw [List.getD_eq_getElem?_getD, List.getElem?_append_right (by omega)]; simp]
        refine ⟨sl_kept hr2.1 hgrow hneR, fun q hq hv => ?_, fun q hq => .inl (.inr (hr2.2.2 q hq))⟩
        rcases hk1 q hv with h | h
        · exact kd q h (hr2.2.2 q hq)
        · have := (hr2.1.1.lt q hq).2; omega
    · simp only [List.length_append, List.length_singleton] at hj
      rw [show (us ++ [ru]).getD i undef = us.getD i undef from by rw [List.getD_eq_getElem?_getD, List.getD_eq_getElem?_getD, List.getElem?_append_left (by omega)]]
      rcases Nat.lt_or_ge j rows.length with h | h
      · rw [show (us ++ [ru]).getD j undef = us.getD j undef from by rw [List.getD_eq_getElem?_getD, List.getD_eq_getElem?_getD, List.getElem?_append_left (by omega)]]
        exact hpair i j hij h
      · obtain rfl : j = rows.length := by omega
        rw [show (us ++ [ru]).getD rows.length undef = ru from by rw [List.getD_eq_getElem?_getD, List.getElem?_append_right (by omega)]; simp [hul]]
        exact fun q hq hv => kd q ((hrows i hij).2.2 q hq) (hr2.2.2 q hv)
  obtain ⟨va, vc, rfl⟩ := rd2_form (Own2.rd (S := fun k => (S1 k ∨ S2 k) ∨ w.heap.size ≤ k) ⟨_, hfin⟩)
  have hf : FrS S1 w w' := frS_grown hgrow hvS
  refine go_val (v := .slice va (rows ++ [r]).length vc) (w' := w') hd hN F ?_ fun ac F => hk va vc w' ac ⟨below_frS M.1 hf (Nat.le_refl _) k1, star_keep _ (fun k _ hk => hk.elim id fun h => Nat.le_trans M.1.size h) agree_refl (hset w' (own2U (.slice va (rows ++ [r]).length vc) (us ++ [ru]) (rows ++ [r])) hf hfin)⟩ F
  intro ρ F; have hs := F _ _ hs; have hx := F _ _ hx
  simp only [execOp, hop, resolve, invoke, builtin, Sem.run_bind, Sem.run_pure, Result.andThen_ok, List.map_toArray, List.map_cons, List.map_nil, hs, hx]
  simp only [List.length_singleton] at hr ⊢
  rw [hr]
  rfl
variable {f : FuncId} {fn : Func} {ags : Array Operand} {ts : Array TypeId} {vs : List Value}
end
end Go.Proofs.Ytpfcfhjpgngneac
namespace Go.Proofs.Ytpfcfhjpgngneac
open Go.RowKit
section
variable {w0 : World} {is : List Itm} {ops : Array Oper} {Q : Exit → Act → World → Prop} {o : Oper} {rest : List Oper} {N : Nat} {e : Env} {v : Value} {d : Nat} {K : Act → World → Prop}
end
end Go.Proofs.Ytpfcfhjpgngneac
namespace Go.Proofs.Ytpfcfhjpgngneac
open Go.RowKit
section
variable {w0 : World} {is : List Itm} {ops : Array Oper} {Q : Exit → Act → World → Prop} {o : Oper} {rest : List Oper} {N : Nat} {e : Env} {v : Value} {d : Nat} {K : Act → World → Prop}
end
end Go.Proofs.Ytpfcfhjpgngneac
