
/- The rules of a walk in blocks of its own: parting on a truth value, rows, closed facts on types. -/
import Derived.Test.YtakifeiemcldlaaRul3
import Derived.Laws.Cover3
namespace Go.Proofs.Ytakifeiemcldlaa
open Go.RowKit
section
variable {w0 : World} {is : List Itm} {ops : Array Oper} {Q : Exit → Act → World → Prop} {o : Oper} {rest : List Oper} {N : Nat} {e : Env} {v : Value} {d : Nat} {K : Act → World → Prop}
theorem g_split {b : Bool} (hw : Want ops e o true) (hd : o.dst = some d) (hN : Nat.blt d N = true) (hq : QT w0 is N o e (.bool b)) (ht : b = true → G w0 is N ops Q rest ((d, (.bool true)) :: e)) (hf : b = false → G w0 is N ops Q rest ((d, (.bool false)) :: e)) : G w0 is N ops Q (o :: rest) e := by
  cases b
  · exact g_q hw hd hN hq (hf rfl)
  · exact g_q hw hd hN hq (ht rfl)
theorem g_splitv {b : Bool} (hw : Want ops e o true) (hd : o.dst = some d) (hN : Nat.blt d N = true) (hq : QV w0 is o e (.bool b)) (ht : b = true → G w0 is N ops Q rest ((d, (.bool true)) :: e)) (hf : b = false → G w0 is N ops Q rest ((d, (.bool false)) :: e)) : G w0 is N ops Q (o :: rest) e := g_split hw hd hN (qt_of hq) ht hf
theorem gd_splitv {Q : Act → Prop} {b : Bool} (hw : Want ops e o true) (hd : o.dst = some d) (hN : Nat.blt d N = true) (hq : QV w0 is o e (.bool b)) (ht : b = true → GD w0 is N ops Q rest ((d, (.bool true)) :: e)) (hf : b = false → GD w0 is N ops Q rest ((d, (.bool false)) :: e)) : GD w0 is N ops Q (o :: rest) e := by
  cases b
  · exact gd_q hw hd hN (qt_of hq) (hf rfl)
  · exact gd_q hw hd hN (qt_of hq) (ht rfl)
theorem ga_splitv {is0 : List Itm} {fuel : Nat} {listed : Array Bool} {b : Bool} (i : Nat) (hi : ops[i]? = some o) (h1 : Region.noSelect ops = true) (h2 : Region.free .any ops listed i = true) (h3 : (Region.ready .any ops listed).contains i = true) (hw : Want ops e o true) (hd : o.dst = some d) (hN : Nat.blt d N = true) (hq : QV w0 is0 o e (.bool b))
    (hQ : ∀ v c a w, Q (.panic c) (a.put o.dst v) w → Q (.panic c) a w) (ht : b = true → GA w0 is0 is N ops Q fuel (listed.setIfInBounds i true) ((d, .bool true) :: e)) (hf : b = false → GA w0 is0 is N ops Q fuel (listed.setIfInBounds i true) ((d, .bool false) :: e)) : GA w0 is0 is N ops Q (fuel + 1) listed e := by
  cases b
  · exact ga_v i hi h1 h2 h3 hw hd hN hq (hQ _) (hf rfl)
  · exact ga_v i hi h1 h2 h3 hw hd hN hq (hQ _) (ht rfl)
theorem gd_split {Q : Act → Prop} {b : Bool} (hw : Want ops e o true) (hd : o.dst = some d) (hN : Nat.blt d N = true) (hq : QT w0 is N o e (.bool b)) (ht : b = true → GD w0 is N ops Q rest ((d, (.bool true)) :: e)) (hf : b = false → GD w0 is N ops Q rest ((d, (.bool false)) :: e)) : GD w0 is N ops Q (o :: rest) e := by
  cases b
  · exact gd_q hw hd hN hq (hf rfl)
  · exact gd_q hw hd hN hq (ht rfl)
theorem go_load2 {x : Operand} {t : TypeId} {u : Value} {xs : List (List Int)} {i : Int} {td : TypeDesc} (hd : o.dst = some d) (hN : Nat.blt d N = true) (hop : o.op = .load t x) (hx : evo e x = some (eltP u i)) (ht : Try.prog.underlying t = some td) (ha : aggT td = false)
    (hr : Rd2 w0 u xs) (h0 : 0 ≤ i) (h1 : i < xs.length) (hk : ∀ a cap, Rd w0 (.slice a (row2 xs i).length cap) (row2 xs i) → GK w0 is N K ((d, .slice a (row2 xs i).length cap) :: e)) : GO w0 is N o e Q K := by
  obtain ⟨r, hr1, hq⟩ := qt_load2 (o := o) (is := is) hop hx ht ha hr h0 h1
  obtain ⟨ra, rc, rfl⟩ := rd_form hr1
  exact go_v hd hN hq (hk ra rc hr1)
theorem ga_load2 {is0 : List Itm} {fuel : Nat} {listed : Array Bool} {x : Operand} {t : TypeId} {u : Value} {xs : List (List Int)} {j : Int} {td : TypeDesc} (i : Nat) (hi : ops[i]? = some o) (h1 : Region.noSelect ops = true) (h2 : Region.free .any ops listed i = true) (h3 : (Region.ready .any ops listed).contains i = true) (hw : Want ops e o true) (hd : o.dst = some d) (hN : Nat.blt d N = true)
    (hop : o.op = .load t x) (hx : evo e x = some (eltP u j)) (ht : Try.prog.underlying t = some td) (ha : aggT td = false)
    (hr : Rd2 w0 u xs) (j0 : 0 ≤ j) (j1 : j < xs.length) (hQ : ∀ v c a w, Q (.panic c) (a.put o.dst v) w → Q (.panic c) a w) (hk : ∀ a cap, Rd w0 (.slice a (row2 xs j).length cap) (row2 xs j) → GA w0 is0 is N ops Q fuel (listed.setIfInBounds i true) ((d, .slice a (row2 xs j).length cap) :: e)) : GA w0 is0 is N ops Q (fuel + 1) listed e := by
  obtain ⟨r, hr1, hq⟩ := qt_load2 (o := o) (is := is0) hop hx ht ha hr j0 j1
  obtain ⟨ra, rc, rfl⟩ := rd_form hr1
  exact ga_v i hi h1 h2 h3 hw hd hN hq (hQ _) (hk ra rc hr1)
theorem g_load2 {x : Operand} {t : TypeId} {u : Value} {xs : List (List Int)} {i : Int} {td : TypeDesc} (hw : Want ops e o true) (hd : o.dst = some d) (hN : Nat.blt d N = true) (hop : o.op = .load t x) (hx : evo e x = some (eltP u i)) (ht : Try.prog.underlying t = some td) (ha : aggT td = false)
    (hr : Rd2 w0 u xs) (h0 : 0 ≤ i) (h1 : i < xs.length) (hk : ∀ a cap, Rd w0 (.slice a (row2 xs i).length cap) (row2 xs i) → G w0 is N ops Q rest ((d, .slice a (row2 xs i).length cap) :: e)) : G w0 is N ops Q (o :: rest) e := by
  obtain ⟨r, hr1, hq⟩ := qt_load2 (o := o) (is := is) hop hx ht ha hr h0 h1
  obtain ⟨ra, rc, rfl⟩ := rd_form hr1
  exact g_v hw hd hN hq (hk ra rc hr1)
theorem gd_load2 {Q : Act → Prop} {x : Operand} {t : TypeId} {u : Value} {xs : List (List Int)} {i : Int} {td : TypeDesc} (hw : Want ops e o true) (hd : o.dst = some d) (hN : Nat.blt d N = true) (hop : o.op = .load t x) (hx : evo e x = some (eltP u i)) (ht : Try.prog.underlying t = some td) (ha : aggT td = false)
    (hr : Rd2 w0 u xs) (h0 : 0 ≤ i) (h1 : i < xs.length) (hk : ∀ a cap, Rd w0 (.slice a (row2 xs i).length cap) (row2 xs i) → GD w0 is N ops Q rest ((d, .slice a (row2 xs i).length cap) :: e)) : GD w0 is N ops Q (o :: rest) e := by
  obtain ⟨r, hr1, hq⟩ := qt_load2 (o := o) (is := is) hop hx ht ha hr h0 h1
  obtain ⟨ra, rc, rfl⟩ := rd_form hr1
  exact gd_v hw hd hN hq (hk ra rc hr1)
theorem lenA_U {n : Nat} {us : List Value} {xs : List (List Int)} (h : is[n]? = some (own2U v us xs)) {w : World} (M : Mem w0 w is) : LenA v xs.length := lenA_rd2 (mem_rdU M h)
theorem lenV_U {n : Nat} {us : List Value} {xs : List (List Int)} (h : is[n]? = some (own2U v us xs)) {w : World} (M : Mem w0 w is) : LenV v xs.length := rd2_form (mem_rdU M h)
theorem lenV_row {n : Nat} {us : List Value} {xs : List (List Int)} (h : is[n]? = some (own2U v us xs)) {i : Int} (h0 : 0 ≤ i) (h1 : i < xs.length) {w : World} (M : Mem w0 w is) : LenV (us.getD i.toNat undef) (row2 xs i).length := rd_form (mem_rowU M h h0 h1)
theorem lenA_row {n : Nat} {us : List Value} {xs : List (List Int)} (h : is[n]? = some (own2U v us xs)) {i : Int} (h0 : 0 ≤ i) (h1 : i < xs.length) {w : World} (M : Mem w0 w is) : LenA (us.getD i.toNat undef) (row2 xs i).length := lenA_rd (mem_rowU M h h0 h1)
theorem qt_loadU {x : Operand} {t : TypeId} {u : Value} {us : List Value} {xs : List (List Int)} {i : Int} {n : Nat} {td : TypeDesc} (hop : o.op = .load t x) (hx : evo e x = some (eltP u i)) (ht : Try.prog.underlying t = some td) (ha : aggT td = false)
    (hi : is[n]? = some (own2U u us xs)) (h0 : 0 ≤ i) (h1 : i < xs.length) : QV w0 is o e (us.getD i.toNat undef) := by
  intro w ρ M F
  have hx := F _ _ hx
  obtain ⟨S, _, hb⟩ := mem_2U M hi
  obtain ⟨hu, _, ⟨_, hor⟩, _⟩ := hb
  rcases hor with ⟨_, hn⟩ | ⟨g, cap, cur, hv, _, hg, hnc, hcm, hcs, htk⟩
  · omega
  · subst hv
    have hlt : i.toNat < us.length := by omega
    have hc : w.cell? ⟨g, 0 + i.toNat, none⟩ = some (us.getD i.toNat undef) := by
      rw [cell_of_row w g (0 + i.toNat) cur _ (0, 0) hg]
      have h2 : (cur.toList.take (xs.length * 1))[i.toNat]? = some (us.getD i.toNat undef) := by
        rw [htk]; simp [List.getD_eq_getElem?_getD, List.getElem?_eq_getElem hlt]
      rw [List.getElem?_take] at h2
      split at h2
      · simpa using h2
      · cases h2
    rw [Nat.zero_add] at hc
    simp [execOp, hop, hx, eltP, run_load1 ht ha hc]
theorem own1_nil (w : World) (S : Nat → Prop) : Own1 (.slice none 0 0) [] w S := ⟨Sl.nil w 0, fun q hq => by simp [Value.ownBlock] at hq⟩
theorem own2_nil (w : World) (S : Nat → Prop) : Own2 (.slice none 0 0) [] w S := ⟨[], rfl, by simp, World.ownsRow_nil w 0 _ 1, fun i hi => by simp at hi, fun i j _ hj => by simp at hj, fun q hq => by simp [Value.ownBlock] at hq⟩
theorem same_q {f : FuncId} {vs : Array Value} {w : World} (h : Calls Try.prog f vs w (Same w v)) : Calls Try.prog f vs w (fun e w' => e = .returned v ∧ Below w.heap.size w w') :=
  h.mono fun e w' h => ⟨h.1, by rw [← h.2]; exact Below.refl _ _⟩
end
theorem sub_nil {e : Env} : Sub [] e := trivial
theorem sub_cons {e r : Env} {k : Nat} {v : Value} (h : look e k = some v) (hs : Sub r e) : Sub ((k, v) :: r) e := ⟨h, hs⟩
/-! ### Clone, lists that grow by a list, rows -/
def isNilV : Value → Bool | .slice none _ _ => true | _ => false
section
variable {w0 : World} {is : List Itm} {ops : Array Oper} {Q : Exit → Act → World → Prop} {o : Oper} {rest : List Oper} {N : Nat} {e : Env} {v : Value} {d : Nat} {K : Act → World → Prop}
theorem nil_rd {w : World} {xs : List Int} (h : Rd w v xs) (hn : isNilV v = true) : v = .slice none 0 0 ∧ xs = [] ∨ xs = [] := by
  obtain ⟨a, cap, rfl, _, hc⟩ := h
  right
  rcases Nat.eq_zero_or_pos xs.length with h0 | h0
  · exact List.eq_nil_of_length_eq_zero h0
  · obtain ⟨b, off, ha, _⟩ := hc 0 h0
    subst ha
    simp [isNilV] at hn
theorem qt_eqNil {x : Operand} {t u : TypeId} {te : TypeId} {a : Option Addr} {n c : Nat} (hop : o.op = .binOp .eql t x (.const (.slice none 0 0)) u) (hx : evo e x = some (.slice a n c)) (ht : Try.prog.underlying t = some (.slice te)) : QV w0 is o e (.bool (isNilV (.slice a n c))) := by
  intro w ρ M F
  have hx := F _ _ hx
  have hy : ρ (.const (.slice none 0 0)) = .slice none 0 0 := F _ _ rfl
  have he : isNilV (.slice a n c) = a.isNone := by cases a <;> rfl
  simp [execOp, hop, hx, hy, eqGuard, binOp, run_equal_slice_nil w t te a n c ht, he]
theorem go_appendL {s x : Operand} {t : TypeId} {n : Nat} {xs ys : List Int} {ua : Option Addr} {un uc : Nat} (hd : o.dst = some d) (hN : Nat.blt d N = true) (hop : o.op = .call { callee := .builtin .append, args := #[s, x], argTypes := #[t, t] }) (ht : Try.prog.underlying t = some (.slice 2))
    (hs : evo e s = some v) (hx : evo e x = some (.slice ua un uc)) (hi : is[n]? = some (own1I v xs)) (hj : ∀ w, Mem w0 w is → Rd w (.slice ua un uc) ys) (hnn : isNilV (.slice ua un uc) = false) (hn : xs.length + ys.length ≤ 17592186044415)
    (hk : ∀ a cap, GK w0 (is.set n (own1I (.slice a (xs ++ ys).length cap) (xs ++ ys))) N K ((d, .slice a (xs ++ ys).length cap) :: e)) : GO w0 is N o e Q K := by
  intro w ac M F
  obtain ⟨ad, cap, hv, _, hc⟩ := hj w M
  simp only [Value.slice.injEq] at hv
  obtain ⟨rfl, rfl, rfl⟩ := hv
  have hbo : ∃ b off bl, ua = some ⟨b, off, bl⟩ ∧ (0 < ys.length → bl = none) := by
    cases ua with
    | none => simp [isNilV] at hnn
    | some q =>
      obtain ⟨b, off, bl⟩ := q
      refine ⟨b, off, bl, rfl, fun h0 => ?_⟩
      obtain ⟨b', off', ha, _⟩ := hc 0 h0
      simp only [Option.some.injEq, Addr.mk.injEq] at ha
      exact ha.2.2
  obtain ⟨b, off, bl, rfl, hbl⟩ := hbo
  obtain ⟨S, hS, hp, hset⟩ := mem_set M hi
  obtain ⟨i, hi', hz, hs1, hb⟩ := info_parts info64
  obtain ⟨v', w', hr, hown, hgrow, _, hat⟩ := run_append_own_at (P := Try.prog) w 0 t o.type 2 i (.int .i64 0) 1 8 ht hi' hz hs1 hb rfl (by decide) v xs.length (xs.map (Value.int .i64)) hp.1.1 ⟨b, off, bl⟩ ys.length uc (ys.map (Value.int .i64)) (by simp) (fun j u hu => by
    have hjl : j < ys.length := by
      have := (List.getElem?_eq_some_iff.1 hu).1
      simpa using this
    have hbl' := hbl (by omega)
    subst hbl'
    obtain ⟨b', off', ha, _, hcell⟩ := hc j hjl
    simp only [Option.some.injEq, Addr.mk.injEq] at ha
    obtain ⟨rfl, rfl, _⟩ := ha
    have := hcell j hjl
    simp only [List.getElem?_map, List.getElem?_eq_getElem hjl, Option.map_some, Option.some.injEq] at hu
    subst hu
    simp only [List.getD_eq_getElem?_getD, List.getElem?_eq_getElem hjl, Option.getD_some] at this
    have hadd : (⟨b, off, none⟩ : Addr).add j = ⟨b, off + j, none⟩ := by unfold Addr.add; split <;> simp_all
    rw [hadd]; exact this) (by simp [Value.oneCell']) (by unfold maxLen; omega) (by omega) (Nat.zero_le _)
  have hsl : Sl w' 0 v' (xs ++ ys) := ⟨by simpa using hown, by simpa using hn⟩
  obtain ⟨va, vc, rfl, _⟩ := sl_form hsl
  refine go_val (v := .slice va (xs ++ ys).length vc) (w' := w') hd hN F ?_ fun ac F => hk va vc w' ac (hset w' (own1I (.slice va (xs ++ ys).length vc) (xs ++ ys)) (frS_grown hgrow hp.2) ⟨hsl, fun q hq => ?_⟩) F
  · intro ρ F; have hs := F _ _ hs; have hx := F _ _ hx
    simp only [execOp, hop, resolve, invoke, builtin, Sem.run_bind, Sem.run_pure, Result.andThen_ok, List.map_toArray, List.map_cons, List.map_nil, hs, hx]
    rw [hr]
    rfl
  · rcases hat with hat | hat
    · exact .inl (hp.2 q (by rw [← hat]; exact hq))
    · rw [hat] at hq
      simp only [Option.some.injEq] at hq
      exact .inr (by omega)
end
def cat0 : Cat := ⟨0, [], [], [], []⟩
theorem ownC_zero (w : World) (S : Nat → Prop) : OwnC (.agg #[.int .i64 0, .slice none 0 0, .slice none 0 0, .slice none 0 0, .slice none 0 0]) cat0 w S :=
  ownC_shut (c := cat0) (P1 := fun _ => False) (P2 := fun _ => False) (P3 := fun _ => False) (P4 := fun _ => False) (own1_nil _ _) (own1_nil _ _) (own1_nil _ _) (own2_nil _ _) (fun k h => by simp at h) (fun _ h => h.elim) (fun _ h => h.elim) (fun _ h => h.elim) (fun _ h => h.elim) (fun _ h => h.elim) (fun _ h => h.elim)
theorem ulE1 : Try.prog.underlying 22 = some (.slice (Try.prog.elem 22)) := by kernel_rfl
theorem szE1 : (Try.prog.info? (Try.prog.elem 22)).map (fun i => i.size) = some 1 := by kernel_rfl
theorem ulE2 : Try.prog.underlying 23 = some (.slice (Try.prog.elem 23)) := by kernel_rfl
theorem szE2 : (Try.prog.info? (Try.prog.elem 23)).map (fun i => i.size) = some 1 := by kernel_rfl
theorem bt_arrowEnds {a b : Int} : Try.prog.built 73 [(0, .int .i64 a), (1, .int .i64 b)] = some #[.int .i64 a, .int .i64 b] := by kernel_rfl
theorem bt_arrowPair {a b : Int} : Try.prog.built 89 [(0, .int .i64 a), (1, .int .i64 b)] = some #[.int .i64 a, .int .i64 b] := by kernel_rfl
theorem bt_Category {ob : Int} {a1 a2 a3 a4 : Option Addr} {n1 n2 n3 n4 k1 k2 k3 k4 : Nat} : Try.prog.built 28 [(0, .int .i64 ob), (1, .slice a1 n1 k1), (2, .slice a2 n2 k2), (3, .slice a3 n3 k3), (4, .slice a4 n4 k4)] = some #[.int .i64 ob, .slice a1 n1 k1, .slice a2 n2 k2, .slice a3 n3 k3, .slice a4 n4 k4] := by kernel_rfl
theorem bt_fault {a b c d : Int} : Try.prog.built 64 [(0, .int .i64 a), (1, .int .i64 b), (2, .int .i64 c), (3, .int .i64 d)] = some #[.int .i64 a, .int .i64 b, .int .i64 c, .int .i64 d] := by kernel_rfl
theorem bt01_fault {a b : Int} : Try.prog.built 64 [(0, .int .i64 a), (1, .int .i64 b)] = some #[.int .i64 a, .int .i64 b, .int .i64 0, .int .i64 0] := by kernel_rfl
theorem bt0_fault : Try.prog.built 64 [] = some #[.int .i64 0, .int .i64 0, .int .i64 0, .int .i64 0] := by kernel_rfl
theorem bt0_Category : Try.prog.built 28 [] = some #[.int .i64 0, .slice none 0 0, .slice none 0 0, .slice none 0 0, .slice none 0 0] := by kernel_rfl
end Go.Proofs.Ytakifeiemcldlaa
