import Derived.Test.YtbiplocgenppoaaS3
import Derived.Test.YtbiplocgenppoaaS1
import Derived.Laws.Cover3
set_option linter.unusedSimpArgs false
set_option linter.unusedVariables false
set_option linter.unusedSectionVars false
namespace Go.Proofs.Ytbiplocgenppoaa
open _root_.Go.Proofs.Try
open Go.RowKit
section
variable {w0 : World} {is : List Itm} {ops : Array Oper} {Q : Exit → Act → World → Prop} {o : Oper} {rest : List Oper} {N : Frm} {e : Env} {v : Value} {d : Nat} {K : Act → World → Prop}
theorem g_split {b : Bool} (hw : Want ops e o true) (hd : o.dst = some d) (hN : Nat.blt d N = true) (hq : QT w0 is N o e (.bool b)) (ht : b = true → G w0 is N ops Q rest ((d, (.bool true)) :: e)) (hf : b = false → G w0 is N ops Q rest ((d, (.bool false)) :: e)) : G w0 is N ops Q (o :: rest) e := by
  cases b
  · exact g_q hw hd hN hq (hf rfl)
  exact g_q hw hd hN hq (ht rfl)
theorem g_splitv {b : Bool} (hw : Want ops e o true) (hd : o.dst = some d) (hN : Nat.blt d N = true) (hq : QV w0 is o e (.bool b)) (ht : b = true → G w0 is N ops Q rest ((d, (.bool true)) :: e)) (hf : b = false → G w0 is N ops Q rest ((d, (.bool false)) :: e)) : G w0 is N ops Q (o :: rest) e := g_split hw hd hN (qt_of hq) ht hf
theorem gd_splitv {Q : Act → Prop} {b : Bool} (hw : Want ops e o true) (hd : o.dst = some d) (hN : Nat.blt d N = true) (hq : QV w0 is o e (.bool b)) (ht : b = true → GD w0 is N ops Q rest ((d, (.bool true)) :: e)) (hf : b = false → GD w0 is N ops Q rest ((d, (.bool false)) :: e)) : GD w0 is N ops Q (o :: rest) e := by
  cases b
  · exact gd_q hw hd hN (qt_of hq) (hf rfl)
  exact gd_q hw hd hN (qt_of hq) (ht rfl)
theorem ga_splitv {is0 : List Itm} {fuel : Nat} {listed : Array Bool} {b : Bool} (i : Nat) (hi : ops[i]? = some o) (h1 : Region.noSelect ops = true) (h2 : Region.free .any ops listed i = true) (h3 : (Region.ready .any ops listed).contains i = true) (hw : Want ops e o true) (hd : o.dst = some d) (hN : Nat.blt d N = true) (hq : QV w0 is0 o e (.bool b))
    (hQ : ∀ v c a w, Q (.panic c) (a.put o.dst v) w → Q (.panic c) a w) (ht : b = true → GA w0 is0 is N ops Q fuel (listed.setIfInBounds i true) ((d, .bool true) :: e)) (hf : b = false → GA w0 is0 is N ops Q fuel (listed.setIfInBounds i true) ((d, .bool false) :: e)) : GA w0 is0 is N ops Q (fuel + 1) listed e := by
  cases b
  · exact ga_v i hi h1 h2 h3 hw hd hN hq (hQ _) (hf rfl)
  exact ga_v i hi h1 h2 h3 hw hd hN hq (hQ _) (ht rfl)
theorem g_load2 {x : Operand} {t : TypeId} {u : Value} {xs : List (List Int)} {i : Int} {td : TypeDesc} (hw : Want ops e o true) (hd : o.dst = some d) (hN : Nat.blt d N = true) (hop : o.op = .load t x) (hx : evo e x = some (eltP u i)) (ht : Try.prog.underlying t = some td) (ha : aggT td = false)
    (hr : Rd2 w0 u xs) (h0 : 0 ≤ i) (h1 : i < xs.length) (hk : ∀ a cap, Rd w0 (.slice a (row2 xs i).length cap) (row2 xs i) → G w0 is N ops Q rest ((d, .slice a (row2 xs i).length cap) :: e)) : G w0 is N ops Q (o :: rest) e := by
  obtain ⟨r, hr1, hq⟩ := qt_load2 (o := o) (is := is) hop hx ht ha hr h0 h1
  obtain ⟨ra, rc, rfl⟩ := rd_form hr1
  exact g_v hw hd hN hq (hk ra rc hr1)
theorem gd_load2 {Q : Act → Prop} {x : Operand} {t : TypeId} {u : Value} {xs : List (List Int)} {i : Int} {td : TypeDesc} (hw : Want ops e o true) (hd : o.dst = some d) (hN : Nat.blt d N = true) (hop : o.op = .load t x) (hx : evo e x = some (eltP u i)) (ht : Try.prog.underlying t = some td) (ha : aggT td = false)
    (hr : Rd2 w0 u xs) (h0 : 0 ≤ i) (h1 : i < xs.length) (hk : ∀ a cap, Rd w0 (.slice a (row2 xs i).length cap) (row2 xs i) → GD w0 is N ops Q rest ((d, .slice a (row2 xs i).length cap) :: e)) : GD w0 is N ops Q (o :: rest) e := by
  obtain ⟨r, hr1, hq⟩ := qt_load2 (o := o) (is := is) hop hx ht ha hr h0 h1
  obtain ⟨ra, rc, rfl⟩ := rd_form hr1
  exact gd_v hw hd hN hq (hk ra rc hr1)
theorem lenA_U {n : Nat} {us : List Value} {xs : List (List Int)} (h : is[n]? = some (own2U v us xs)) {w : World} (M : Mem w0 w is) : LenA v xs.length := lenA_rd2 (mem_rdU M h)
theorem lenV_U {n : Nat} {us : List Value} {xs : List (List Int)} (h : is[n]? = some (own2U v us xs)) {w : World} (M : Mem w0 w is) : LenV v xs.length := rd2_form (mem_rdU M h)
theorem lenV_row {n : Nat} {us : List Value} {xs : List (List Int)} (h : is[n]? = some (own2U v us xs)) {i : Int} (h0 : 0 ≤ i) (h1 : i < xs.length) {w : World} (M : Mem w0 w is) : LenV (us.getD i.toNat undef) (row2 xs i).length := rd_form (mem_rowU M h h0 h1)
theorem lenA_row {n : Nat} {us : List Value} {xs : List (List Int)} (h : is[n]? = some (own2U v us xs)) {i : Int} (h0 : 0 ≤ i) (h1 : i < xs.length) {w : World} (M : Mem w0 w is) : LenA (us.getD i.toNat undef) (row2 xs i).length := lenA_rd (mem_rowU M h h0 h1)
theorem qt_loadU {x : Operand} {t : TypeId} {u : Value} {us : List Value} {xs : List (List Int)} {i : Int} {n : Nat} {td : TypeDesc} (hop : o.op = .load t x) (hx : evo e x = some (eltP u i)) (ht : Try.prog.underlying t = some td) (ha : aggT td = false)
    (hi : is[n]? = some (own2U u us xs)) (h0 : 0 ≤ i) (h1 : i < xs.length) : QV w0 is o e (us.getD i.toNat undef) := by
  intro w ρ M F
  have hx := F _ _ hx
  obtain ⟨S, _, hb⟩ := mem_2U M hi
  obtain ⟨hu, _, ⟨_, hor⟩, _⟩ := hb
  rcases hor with ⟨_, hn⟩ | ⟨g, cap, cur, hv, _, hg, hnc, hcm, hcs, htk⟩
  · omega
  subst hv
  have hlt : i.toNat < us.length := by omega
  have hc : w.cell? ⟨g, 0 + i.toNat, none⟩ = some (us.getD i.toNat undef) := by
    rw [cell_of_row w g (0 + i.toNat) cur _ (0, 0) hg]
    have h2 : (cur.toList.take (xs.length * 1))[i.toNat]? = some (us.getD i.toNat undef) := by
      rw [htk]; simp [List.getD_eq_getElem?_getD, List.getElem?_eq_getElem hlt]
    rw [List.getElem?_take] at h2
    split at h2
    · simpa using h2
    cases h2
  rw [Nat.zero_add] at hc
  simp [execOp, hop, hx, eltP, run_load1 ht ha hc]
theorem own1_nil (w : World) (S : Nat → Prop) : Own1 (.slice none 0 0) [] w S := ⟨Sl.nil w 0, fun q hq => by simp [Value.ownBlock] at hq⟩
theorem own2_nil (w : World) (S : Nat → Prop) : Own2 (.slice none 0 0) [] w S := ⟨[], rfl, by simp, World.ownsRow_nil w 0 _ 1, fun i hi => by simp at hi, fun i j _ hj => by simp at hj, fun q hq => by simp [Value.ownBlock] at hq⟩
theorem same_q {f : FuncId} {vs : Array Value} {w : World} (h : Calls Try.prog f vs w (Same w v)) : Calls Try.prog f vs w (fun e w' => e = .returned v ∧ Below w.heap.size w w') :=
  h.mono fun e w' h => ⟨h.1, by rw [← h.2]; exact Below.refl _ _⟩
end
theorem sub_nil {e : Env} : Sub [] e := trivial
theorem sub_cons {e r : Env} {k : Nat} {v : Value} (h : look e k = some v) (hs : Sub r e) : Sub ((k, v) :: r) e := ⟨h, hs⟩
def isNilV : Value → Bool | .slice none _ _ => true | _ => false
section
variable {w0 : World} {is : List Itm} {ops : Array Oper} {Q : Exit → Act → World → Prop} {o : Oper} {rest : List Oper} {N : Frm} {e : Env} {v : Value} {d : Nat} {K : Act → World → Prop}
theorem nil_rd {w : World} {xs : List Int} (h : Rd w v xs) (hn : isNilV v = true) : v = .slice none 0 0 ∧ xs = [] ∨ xs = [] := by
  obtain ⟨a, cap, rfl, _, hc⟩ := h
  right
  rcases Nat.eq_zero_or_pos xs.length with h0 | h0
  · exact List.eq_nil_of_length_eq_zero h0
  obtain ⟨b, off, ha, _⟩ := hc 0 h0
  subst ha
  simp [isNilV] at hn
theorem qt_eqNil {x : Operand} {t u : TypeId} {te : TypeId} {a : Option Addr} {n c : Nat} (hop : o.op = .binOp .eql t x (.const (.slice none 0 0)) u) (hx : evo e x = some (.slice a n c)) (ht : Try.prog.underlying t = some (.slice te)) : QV w0 is o e (.bool (isNilV (.slice a n c))) := by
  intro w ρ M F
  have hx := F _ _ hx
  have hy : ρ (.const (.slice none 0 0)) = .slice none 0 0 := F _ _ rfl
  have he : isNilV (.slice a n c) = a.isNone := by cases a <;> rfl
  simp [execOp, hop, hx, hy, eqGuard, binOp, run_equal_slice_nil w t te a n c ht, he]
theorem go_appendL {s x : Operand} {t : TypeId} {n : Nat} {xs ys : List Int} {ua : Option Addr} {un uc : Nat} (hd : o.dst = some d) (hN : Nat.blt d N = true) (hop : o.op = .call { callee := .builtin .append, args := #[s, x], argTypes := #[t, t] }) (ht : Try.prog.underlying t = some (.slice 2))
    (hs : evo e s = some v) (hx : evo e x = some (.slice ua un uc)) (hi : is[n]? = some (own1I v xs)) (hj : ∀ w, Mem w0 w is → Rd w (.slice ua un uc) ys) (hnn : isNilV (.slice ua un uc) = false) (hn : xs.length + ys.length ≤ 17592186044415)
    (hk : ∀ a cap, GK w0 (is.set n (own1I (.slice a (xs ++ ys).length cap) (xs ++ ys))) N K ((d, .slice a (xs ++ ys).length cap) :: e)) : GO w0 is N o e Q K := by
  intro w ac M F
  obtain ⟨ad, cap, hv, _, hc⟩ := hj w M
  simp only [Value.slice.injEq] at hv
  obtain ⟨rfl, rfl, rfl⟩ := hv
  have hbo : ∃ b off bl, ua = some ⟨b, off, bl⟩ ∧ (0 < ys.length → bl = none) := by
    cases ua with
    | none => simp [isNilV] at hnn
    | some q =>
      obtain ⟨b, off, bl⟩ := q
      refine ⟨b, off, bl, rfl, fun h0 => ?_⟩
      obtain ⟨b', off', ha, _⟩ := hc 0 h0
      simp only [Option.some.injEq, Addr.mk.injEq] at ha
      exact ha.2.2
  obtain ⟨b, off, bl, rfl, hbl⟩ := hbo
  obtain ⟨S, hS, hp, hset⟩ := mem_set M hi
  obtain ⟨i, hi', hz, hs1, hb⟩ := info_parts info64
  obtain ⟨v', w', hr, hown, hgrow, _, hat⟩ := run_append_own_at (P := Try.prog) w 0 t o.type 2 i (.int .i64 0) 1 8 ht hi' hz hs1 hb rfl (by decide) v xs.length (xs.map (Value.int .i64)) hp.1.1 ⟨b, off, bl⟩ ys.length uc (ys.map (Value.int .i64)) (by simp) (fun j u hu => by
    have hjl : j < ys.length := by
      have := (List.getElem?_eq_some_iff.1 hu).1
      simpa using this
    have hbl' := hbl (by omega)
    subst hbl'
    obtain ⟨b', off', ha, _, hcell⟩ := hc j hjl
    simp only [Option.some.injEq, Addr.mk.injEq] at ha
    obtain ⟨rfl, rfl, _⟩ := ha
    have := hcell j hjl
    simp only [List.getElem?_map, List.getElem?_eq_getElem hjl, Option.map_some, Option.some.injEq] at hu
    subst hu
    simp only [List.getD_eq_getElem?_getD, List.getElem?_eq_getElem hjl, Option.getD_some] at this
    have hadd : (⟨b, off, none⟩ : Addr).add j = ⟨b, off + j, none⟩ := by unfold Addr.add; split <;> simp_all
    rw [hadd]; exact this) (by simp [Value.oneCell']) (by unfold maxLen; omega) (by omega) (Nat.zero_le _)
  have hsl : Sl w' 0 v' (xs ++ ys) := ⟨by simpa using hown, by simpa using hn⟩
  obtain ⟨va, vc, rfl, _⟩ := sl_form hsl
  refine go_val (v := .slice va (xs ++ ys).length vc) (w' := w') hd hN F ?_ fun ac F => hk va vc w' ac (hset w' (own1I (.slice va (xs ++ ys).length vc) (xs ++ ys)) (frS_grown hgrow hp.2) ⟨hsl, fun q hq => ?_⟩) F
  · intro ρ F; have hs := F _ _ hs; have hx := F _ _ hx
    simp only [execOp, hop, resolve, invoke, builtin, Sem.run_bind, Sem.run_pure, Result.andThen_ok, List.map_toArray, List.map_cons, List.map_nil, hs, hx]
    rw [hr]
    rfl
  rcases hat with hat | hat
  · exact .inl (hp.2 q (by rw [← hat]; exact hq))
  rw [hat] at hq
  simp only [Option.some.injEq] at hq
  exact .inr (by omega)
end
def cat0 : Cat := ⟨0, [], [], [], []⟩
theorem ownC_zero (w : World) (S : Nat → Prop) : OwnC (.agg #[.int .i64 0, .slice none 0 0, .slice none 0 0, .slice none 0 0, .slice none 0 0]) cat0 w S :=
  ownC_shut (c := cat0) (P1 := fun _ => False) (P2 := fun _ => False) (P3 := fun _ => False) (P4 := fun _ => False) (own1_nil _ _) (own1_nil _ _) (own1_nil _ _) (own2_nil _ _) (fun k h => by simp at h) (fun _ h => h.elim) (fun _ h => h.elim) (fun _ h => h.elim) (fun _ h => h.elim) (fun _ h => h.elim) (fun _ h => h.elim)
theorem ulE1 : Try.prog.underlying 24 = some (.slice (Try.prog.elem 24)) := by kernel_rfl
theorem szE1 : (Try.prog.info? (Try.prog.elem 24)).map (fun i => i.size) = some 1 := by kernel_rfl
theorem ulE2 : Try.prog.underlying 25 = some (.slice (Try.prog.elem 25)) := by kernel_rfl
theorem szE2 : (Try.prog.info? (Try.prog.elem 25)).map (fun i => i.size) = some 1 := by kernel_rfl
theorem bt_arrowEnds {a b : Int} : Try.prog.built 59 [(0, .int .i64 a), (1, .int .i64 b)] = some #[.int .i64 a, .int .i64 b] := by kernel_rfl
theorem bt_arrowPair {a b : Int} : Try.prog.built 91 [(0, .int .i64 a), (1, .int .i64 b)] = some #[.int .i64 a, .int .i64 b] := by kernel_rfl
theorem bt_Category {ob : Int} {a1 a2 a3 a4 : Option Addr} {n1 n2 n3 n4 k1 k2 k3 k4 : Nat} : Try.prog.built 27 [(0, .int .i64 ob), (1, .slice a1 n1 k1), (2, .slice a2 n2 k2), (3, .slice a3 n3 k3), (4, .slice a4 n4 k4)] = some #[.int .i64 ob, .slice a1 n1 k1, .slice a2 n2 k2, .slice a3 n3 k3, .slice a4 n4 k4] := by kernel_rfl
theorem bt_fault {a b c d : Int} : Try.prog.built 106 [(0, .int .i64 a), (1, .int .i64 b), (2, .int .i64 c), (3, .int .i64 d)] = some #[.int .i64 a, .int .i64 b, .int .i64 c, .int .i64 d] := by kernel_rfl
theorem bt01_fault {a b : Int} : Try.prog.built 106 [(0, .int .i64 a), (1, .int .i64 b)] = some #[.int .i64 a, .int .i64 b, .int .i64 0, .int .i64 0] := by kernel_rfl
theorem bt0_fault : Try.prog.built 106 [] = some #[.int .i64 0, .int .i64 0, .int .i64 0, .int .i64 0] := by kernel_rfl
theorem bt0_Category : Try.prog.built 27 [] = some #[.int .i64 0, .slice none 0 0, .slice none 0 0, .slice none 0 0, .slice none 0 0] := by kernel_rfl
end Go.Proofs.Ytbiplocgenppoaa
namespace Go.Proofs.Ytbiplocgenppoaa
open _root_.Go.Proofs.Try
open Go.RowKit
theorem triv_loc : Loc (fun (_ : World) (_ : Nat → Prop) => True) where
  keep _ _ _ := trivial
def trivI : Itm := ⟨_, triv_loc⟩
theorem star_unpick : ∀ (is : List Itm) {n : Nat} {i : Itm} {w : World} {S : Nat → Prop}, n < is.length → Star (i :: is.eraseIdx n) w S → Star (is.set n i) w S
  | [], n, i, _, _, h, _ => by simp at h
  | j :: is, 0, i, w, S, h, hs => hs
  | j :: is, n + 1, i, w, S, h, hs => by
    obtain ⟨S1, S2, k1, k2, hd, h1, T1, T2, t1, t2, td, a1, a2⟩ := hs
    refine ⟨T1, fun k => S1 k ∨ T2 k, fun k h => k2 k (t1 k h), fun k h => h.elim (k1 k) fun h => k2 k (t2 k h), fun k a b => b.elim (fun b => hd k b (t1 k a)) (td k a), a1, ?_⟩
    exact star_unpick is (by simpa using h) ⟨S1, T2, fun k h => .inl h, fun k h => .inr h, fun k a b => hd k a (t2 k b), h1, a2⟩
theorem star_two {is : List Itm} {n m m' : Nat} {i j : Itm} {w : World} {S : Nat → Prop} (h : Star is w S) (hi : is[n]? = some i) (hj : (is.eraseIdx n)[m']? = some j) (hE : (is.set m trivI).eraseIdx n = (is.eraseIdx n).set m' trivI) :
    ∃ S1 S2 : Nat → Prop, (∀ k, S1 k → S k) ∧ (∀ k, S2 k → S k) ∧ (∀ k, S1 k → ¬ S2 k) ∧ i.p w S1 ∧ j.p w S2 ∧
      ∀ (w' : World) (i' : Itm), FrS S1 w w' → i'.p w' (fun k => S1 k ∨ S2 k) → Star ((is.set m trivI).set n i') w' S := by
  obtain ⟨S1, R, a1, a2, a3, a4, a5⟩ := star_pick is hi h
  obtain ⟨S2, R', b1, b2, b3, b4, b5⟩ := star_pick _ hj a5
  have hn : n < is.length := (List.getElem?_eq_some_iff.1 hi).1
  have hm : m' < (is.eraseIdx n).length := (List.getElem?_eq_some_iff.1 hj).1
  refine ⟨S1, S2, a1, fun k h => a2 k (b1 k h), fun k h h' => a3 k h (b1 k h'), a4, b4, fun w' i' hf hi' => ?_⟩
  refine star_unpick _ (by simpa using hn) ?_
  rw [hE]
  refine ⟨fun k => S1 k ∨ S2 k, fun k => R' k ∧ k < w.heap.size, fun k h => h.elim (a1 k) fun h => a2 k (b1 k h), fun k h => a2 k (b2 k h.1), fun k h h' => h.elim (fun h => a3 k h (b2 k h'.1)) (fun h => b3 k h h'.1), hi', ?_⟩
  refine star_unpick _ hm ⟨fun _ => False, fun k => R' k ∧ k < w.heap.size, fun k h => h.elim, fun k h => h, fun k h => h.elim, trivial, ?_⟩
  exact star_keep _ (fun k hk h => ⟨h, hk⟩) (fun k hk h => hf.block k hk fun e => a3 k e (b2 k h)) b5
theorem own2U_store {w : World} {S1 S2 : Nat → Prop} {g n cap k : Nat} {us : List Value} {rows : List (List Int)} {r : List Int} {u : Value} (h : Own2U (.slice (some ⟨g, 0, none⟩) n cap) us rows w S1) (hk : k < rows.length)
    (hu : Own1 u r w S2) (hd : ∀ q, S1 q → ¬ S2 q) : Own2U (.slice (some ⟨g, 0, none⟩) n cap) (us.set k u) (rows.set k r) (w.setCell ⟨g, k, none⟩ u) (fun q => S1 q ∨ S2 q) ∧ FrS S1 w (w.setCell ⟨g, k, none⟩ u) := by
  obtain ⟨h1, h2, h3, h4, h5, h6⟩ := h
  have hgS : S1 g := h6 g rfl
  have hn : n = rows.length := by
    rcases h3.2 with ⟨hv, _⟩ | ⟨g', cap', cur, hv, _⟩
    · simp at hv
    simp only [Value.slice.injEq] at hv
    exact hv.2.1
  subst hn
  have hst := h3.stored k u
  have hgr := hst.2
  have hne : ∀ v : Value, (∀ q, v.ownBlock = some q → q ≠ g) → v.ownBlock = none ∨ v.ownBlock ≠ some g := fun v hv => by
    cases hb0 : v.ownBlock with
    | none => exact .inl rfl
    | some q => exact .inr fun e => hv q hb0 (by simpa using e)
  have hu0 : Sl (w.setCell ⟨g, k, none⟩ u) 0 u r := sl_kept hu.1 hgr (hne u fun q hq e => hd g hgS (by rw [← e]; exact hu.2 q hq))
  refine ⟨⟨by simp [h1], by simpa using h2, by simpa using hst.1, fun i hi => ?_, fun i j hij hj => ?_, fun q hq => .inl (h6 q hq)⟩, ⟨hgr.os, hgr.tape, hgr.output, hgr.size, fun q hq hs => hgr.block q hq fun e => hs (by rw [Option.some.inj e]; exact hgS)⟩⟩
  · simp only [List.length_set] at hi
    rw [getD_set2 us k u undef i (by omega), getD_set2 rows k r [] i (by omega)]
    by_cases hik : i = k
    · rw [if_pos hik, if_pos hik]
      exact ⟨hu0, fun q hq hv => by
        simp only [Value.ownBlock, Option.some.injEq] at hv
        exact hd g hgS (by rw [hv]; exact hu.2 q hq), fun q hq => .inr (hu.2 q hq)⟩
    rw [if_neg hik, if_neg hik]
    exact ⟨sl_kept (h4 i hi).1 hgr (hne _ fun q hq e => (h4 i hi).2.1 q hq (by simp [Value.ownBlock, e])), (h4 i hi).2.1, fun q hq => .inl ((h4 i hi).2.2 q hq)⟩
  simp only [List.length_set] at hj
  rw [getD_set2 us k u undef i (by omega), getD_set2 us k u undef j (by omega)]
  by_cases hik : i = k
  · rw [if_pos hik, if_neg (by omega)]
    exact fun q hq hq2 => hd q ((h4 j hj).2.2 q hq2) (hu.2 q hq)
  rw [if_neg hik]
  by_cases hjk : j = k
  · rw [if_pos hjk]
    exact fun q hq hq2 => hd q ((h4 i (by omega)).2.2 q hq) (hu.2 q hq2)
  rw [if_neg hjk]
  exact h5 i j hij hj
theorem all_next0 {p : Nat → Prop} {k : Nat} (h : ∀ j, j < k → p j) (hk : p k) : ∀ j, j < k + 1 → p j := fun j hj => by
  rcases Nat.lt_or_ge j k with h1 | h1
  · exact h j h1
  rw [show j = k from by omega]; exact hk
section
variable {w0 : World} {is : List Itm} {ops : Array Oper} {Q : Exit → Act → World → Prop} {o : Oper} {rest : List Oper} {N : Frm} {e : Env} {v : Value} {d : Nat} {K : Act → World → Prop}
theorem run_store1 {t : TypeId} {a : Addr} {w : World} {u old : Value} (hs : (Try.prog.info? t).map (·.size) = some 1) (h1 : u.oneCell' = true) (h2 : u.cells = #[u]) (hc : w.cell? a = some old) (hf : w.frozen? a = false) :
    (Instr.storeAt t (.pointer (some a)) u).run Try.prog w = .ok () (w.setCell a u) := by
  obtain ⟨inf, hi2, hz⟩ := Option.map_eq_some_iff.1 hs
  have hadd : a.add 0 = a := by simp [Addr.add]
  simp [Instr.storeAt, Instr.sureAddr, storeVar, sizeOf, typeInfo, hi2, hz, h2, storeCells, hadd, run_store _ _ _ _ _ h1, hc, hf]
theorem go_make1 {x y : Operand} {t : TypeId} {n : Nat} (hd : o.dst = some d) (hN : Nat.blt d N = true) (hop : o.op = .makeSlice t x y) (ht : Try.prog.underlying t = some (.slice 2)) (hx : evo e x = some (.int .i64 (n : Int))) (hy : evo e y = some (.int .i64 (n : Int))) (hn : n ≤ 17592186044415)
    (hk : ∀ B : Nat, GK w0 (is ++ [own1I (.slice (some ⟨B, 0, none⟩) n n) (List.replicate n 0)]) N K ((d, .slice (some ⟨B, 0, none⟩) n n) :: e)) : GO w0 is N o e Q K := by
  intro w ac M F
  obtain ⟨i, hi, hz, hs, hb⟩ := info_parts info64
  obtain ⟨w', hr, hown, hgrow⟩ := run_make_full (P := Try.prog) w w.heap.size t 2 i (.int .i64 0) 1 ht hi hz hs .i64 .i64 n (by rw [hb]; omega) (by unfold maxLen; omega) (Nat.le_refl _)
  have hs' : Sl w' w.heap.size (.slice (some ⟨w.heap.size, 0, none⟩) n n) (List.replicate n 0) := by
    refine ⟨?_, by simpa using hn⟩
    simp only [Value.cells, Nat.mul_one] at hown
    rw [madeOne] at hown
    simpa using hown
  refine go_val (v := .slice (some ⟨w.heap.size, 0, none⟩) n n) (w' := w') hd hN F ?_ fun ac F => hk w.heap.size w' ac (mem_new M ((Below.refl _ _).grown hgrow (Nat.le_refl _) (by simp)) (own1_of hs')) F
  intro ρ F; have hx := F _ _ hx; have hy := F _ _ hy
  simp only [execOp, hop, hx, hy, Sem.run_bind, hr, Result.andThen_ok]
  rfl
theorem go_make2 {x y : Operand} {t : TypeId} {n : Nat} (hd : o.dst = some d) (hN : Nat.blt d N = true) (hop : o.op = .makeSlice t x y) (ht : Try.prog.underlying t = some (.slice 24)) (hx : evo e x = some (.int .i64 (n : Int))) (hy : evo e y = some (.int .i64 (n : Int))) (hn : n ≤ 5000000000000)
    (hk : ∀ B : Nat, GK w0 (is ++ [own2U (.slice (some ⟨B, 0, none⟩) n n) (List.replicate n (.slice none 0 0)) (List.replicate n [])]) N K ((d, .slice (some ⟨B, 0, none⟩) n n) :: e)) : GO w0 is N o e Q K := by
  intro w ac M F
  obtain ⟨i, hi, hz, hs, hb⟩ := info_parts infoS
  obtain ⟨w', hr, hown, hgrow⟩ := run_make_full (P := Try.prog) w w.heap.size t 24 i (.slice none 0 0) 1 ht hi hz hs .i64 .i64 n (by rw [hb]; omega) (by unfold maxLen; omega) (Nat.le_refl _)
  have hone : (madeCells #[Value.slice none 0 0] n).toList = List.replicate n (.slice none 0 0) := by rw [toList_madeCells_one]
  have hown' : w'.ownsRow w.heap.size 24 1 (.slice (some ⟨w.heap.size, 0, none⟩) n n) n (List.replicate n (.slice none 0 0)) := by
    simp only [Value.cells, Nat.mul_one] at hown
    rw [hone] at hown
    exact hown
  have hU : Own2U (.slice (some ⟨w.heap.size, 0, none⟩) n n) (List.replicate n (.slice none 0 0)) (List.replicate n []) w' (fun k => w.heap.size ≤ k) := by
    refine ⟨by simp, by simpa using hn, by simpa using own_base hown', fun j hj => ?_, fun j k hjk hk => ?_, fun q hq => by simp [Value.ownBlock] at hq; omega⟩
    · have hj' : j < n := by simpa using hj
      have e1 : (List.replicate n (Value.slice none 0 0)).getD j undef = .slice none 0 0 := by simp [List.getD_eq_getElem?_getD, hj']
      have e2 : (List.replicate n ([] : List Int)).getD j [] = [] := by simp [List.getD_eq_getElem?_getD, hj']
      rw [e1, e2]
      exact ⟨Sl.nil _ _, fun g hg => by simp [Value.ownBlock] at hg, fun q hq => by simp [Value.ownBlock] at hq⟩
    have hk' : k < n := by simpa using hk
    have e1 : (List.replicate n (Value.slice none 0 0)).getD j undef = .slice none 0 0 := by simp [List.getD_eq_getElem?_getD, show j < n by omega]
    rw [e1]
    exact fun g hg => by simp [Value.ownBlock] at hg
  refine go_val (v := .slice (some ⟨w.heap.size, 0, none⟩) n n) (w' := w') hd hN F ?_ fun ac F => hk w.heap.size w' ac (mem_new M ((Below.refl _ _).grown hgrow (Nat.le_refl _) (by simp)) hU) F
  intro ρ F; have hx := F _ _ hx; have hy := F _ _ hy
  simp only [execOp, hop, hx, hy, Sem.run_bind, hr, Result.andThen_ok]
  rfl
theorem go_storeRow {t : TypeId} {x y : Operand} {n m m' : Nat} {us : List Value} {rows : List (List Int)} {r : List Int} {u : Value} {i : Int} (hd : o.dst = none) (hop : o.op = .store t x y) (hx : evo e x = some (eltP v i)) (hy : evo e y = some u)
    (hs : (Try.prog.info? t).map (·.size) = some 1) (hi : is[n]? = some (own2U v us rows)) (hj : (is.eraseIdx n)[m']? = some (own1I u r)) (hE : (is.set m trivI).eraseIdx n = (is.eraseIdx n).set m' trivI) (h0 : 0 ≤ i) (h1 : i < rows.length)
    (hk : GK w0 ((is.set m trivI).set n (own2U v (us.set i.toNat u) (rows.set i.toNat r))) N K e) : GO w0 is N o e Q K := by
  intro w ac M F
  obtain ⟨S1, S2, k1, k2, kd, hp, hq, hset⟩ := star_two M.2 hi hj hE
  have hp' : Own2U v us rows w S1 := hp
  have hq' : Own1 u r w S2 := hq
  obtain ⟨ua, uc, rfl⟩ := rd_form hq'.rd
  have hform := hp'.2.2.1.2
  rcases hform with ⟨_, hn⟩ | ⟨g, cap, cur, rfl, _, hg, hnc, hcm, hcs, htk⟩
  · omega
  obtain ⟨hnew, hfr⟩ := own2U_store hp' (k := i.toNat) (by omega) hq' kd
  have hlt : i.toNat < cur.size := by rw [hcs]; omega
  have hcell : w.cell? ⟨g, i.toNat, none⟩ = some cur[i.toNat] := by rw [cell_of_row w g _ cur _ (0, 0) hg]; simp [hlt]
  have hfz : w.frozen? ⟨g, i.toNat, none⟩ = false := frozen_of_row w g _ _ _ hg
  refine go_skip (w' := w.setCell ⟨g, i.toNat, none⟩ (.slice ua r.length uc)) hd F ?_ fun ac F => hk _ ac ⟨below_frS M.1 hfr (Nat.le_refl _) k1, hset _ _ hfr hnew⟩ F
  intro ρ F; have hx := F _ _ hx; have hy := F _ _ hy
  have he : eltP (.slice (some ⟨g, 0, none⟩) rows.length cap) i = .pointer (some ⟨g, i.toNat, none⟩) := by simp [eltP]
  simp [execOp, hop, hx, hy, he, run_store1 hs (u := .slice ua r.length uc) rfl rfl hcell hfz]
theorem go_store1 {t : TypeId} {x y : Operand} {n : Nat} {xs : List Int} {z i : Int} (hd : o.dst = none) (hop : o.op = .store t x y) (hx : evo e x = some (eltP v i)) (hy : evo e y = some (.int .i64 z))
    (hs : (Try.prog.info? t).map (·.size) = some 1) (hi : is[n]? = some (own1I v xs)) (h0 : 0 ≤ i) (h1 : i < xs.length)
    (hk : GK w0 (is.set n (own1I v (xs.set i.toNat z))) N K e) : GO w0 is N o e Q K := by
  intro w ac M F
  obtain ⟨S, hS, hp, hset⟩ := mem_set M hi
  have hp' : Own1 v xs w S := hp
  obtain ⟨a, cap, rfl, hf⟩ := sl_form hp'.1
  obtain ⟨g, rfl⟩ := hf i.toNat (by omega)
  have hcell := sl_cell hp'.1 (j := i.toNat) (by omega)
  have hfz := sl_frozen hp'.1 i.toNat
  have hst := sl_set hp'.1 i.toNat z
  refine go_skip (w' := w.setCell ⟨g, i.toNat, none⟩ (.int .i64 z)) hd F ?_ fun ac F => hk _ ac (hset _ _ ⟨hst.2.os, hst.2.tape, hst.2.output, hst.2.size, fun q hq hs => hst.2.block q hq fun e => hs (by rw [Option.some.inj e]; exact hp'.2 g rfl)⟩ ⟨hst.1, fun q hq => .inl (hp'.2 q hq)⟩) F
  intro ρ F; have hx := F _ _ hx; have hy := F _ _ hy
  have he : eltP (.slice (some ⟨g, 0, none⟩) xs.length cap) i = .pointer (some ⟨g, i.toNat, none⟩) := by simp [eltP]
  simp [execOp, hop, hx, hy, he, run_store1 hs (u := .int .i64 z) rfl rfl hcell hfz]
end
end Go.Proofs.Ytbiplocgenppoaa
namespace Go.Proofs.Ytbiplocgenppoaa
open _root_.Go.Proofs.Try
open Go.RowKit
section
variable {w0 : World} {is : List Itm} {ops : Array Oper} {Q : Exit → Act → World → Prop} {o : Oper} {rest : List Oper} {N : Frm} {e : Env} {v : Value} {d : Nat} {K : Act → World → Prop}
variable {f : FuncId} {fn : Func} {ags : Array Operand} {ts : Array TypeId} {vs : List Value}
end
end Go.Proofs.Ytbiplocgenppoaa
namespace Go.Proofs.Ytbiplocgenppoaa
open _root_.Go.Proofs.Try
open Go.RowKit
section
variable {w0 : World} {is is0 : List Itm} {ops : Array Oper} {Q : Exit → Act → World → Prop} {o : Oper} {rest : List Oper} {N : Frm} {e : Env} {v : Value} {d : Nat} {K : Act → World → Prop} {fuel : Nat} {listed : Array Bool}
theorem gv (hq : QV w0 is o e v) (hk : G w0 is N ops Q rest ((d, v) :: e)) (hw : Want ops e o true := by exact .free rfl) (hd : o.dst = some d := by rfl) (hN : Nat.blt d N = true := by rfl) : G w0 is N ops Q (o :: rest) e := g_v hw hd hN hq hk
theorem gvh (hq : QV w0 is o e v) (hk : G w0 is N ops Q rest ((d, v) :: e)) (hw : Want ops e o true := by exact .held _ _ _ rfl rfl rfl) (hd : o.dst = some d := by rfl) (hN : Nat.blt d N = true := by rfl) : G w0 is N ops Q (o :: rest) e := g_v hw hd hN hq hk
theorem gdv {Q : Act → Prop} (hq : QV w0 is o e v) (hk : GD w0 is N ops Q rest ((d, v) :: e)) (hw : Want ops e o true := by exact .free rfl) (hd : o.dst = some d := by rfl) (hN : Nat.blt d N = true := by rfl) : GD w0 is N ops Q (o :: rest) e := gd_v hw hd hN hq hk
theorem gdvh {Q : Act → Prop} (hq : QV w0 is o e v) (hk : GD w0 is N ops Q rest ((d, v) :: e)) (hw : Want ops e o true := by exact .held _ _ _ rfl rfl rfl) (hd : o.dst = some d := by rfl) (hN : Nat.blt d N = true := by rfl) : GD w0 is N ops Q (o :: rest) e := gd_v hw hd hN hq hk
theorem gov (hq : QV w0 is o e v) (hk : GK w0 is N K ((d, v) :: e)) (hd : o.dst = some d := by rfl) (hN : Nat.blt d N = true := by rfl) : GO w0 is N o e Q K := go_v hd hN hq hk
theorem gsk (hk : G w0 is N ops Q rest ((d, undef) :: e)) (hw : Want ops e o false := by exact .not _ _ _ _ rfl rfl rfl rfl) (hd : o.dst = some d := by rfl) (hN : Nat.blt d N = true := by rfl) : G w0 is N ops Q (o :: rest) e := g_skip hw hd hN hk
theorem gdsk {Q : Act → Prop} (hk : GD w0 is N ops Q rest ((d, undef) :: e)) (hw : Want ops e o false := by exact .not _ _ _ _ rfl rfl rfl rfl) (hd : o.dst = some d := by rfl) (hN : Nat.blt d N = true := by rfl) : GD w0 is N ops Q (o :: rest) e := gd_skip hw hd hN hk
theorem gav (i : Nat) (hi : ops[i]? = some o) (hq : QV w0 is0 o e v) (hk : GA w0 is0 is N ops Q fuel (listed.setIfInBounds i true) ((d, v) :: e)) (h1 : Region.noSelect ops = true := by kernel_rfl) (h2 : Region.free .any ops listed i = true := by kernel_rfl) (h3 : (Region.ready .any ops listed).contains i = true := by kernel_rfl)
    (hw : Want ops e o true := by exact .free rfl) (hd : o.dst = some d := by rfl) (hN : Nat.blt d N = true := by rfl) (hQ : ∀ c a w, Q (.panic c) (a.put o.dst v) w → Q (.panic c) a w := by exact fun _ _ _ h => h) : GA w0 is0 is N ops Q (fuel + 1) listed e := ga_v i hi h1 h2 h3 hw hd hN hq hQ hk
theorem gop (h : ∀ K : Act → World → Prop, (∀ is e, G w0 is N ops Q rest e → GK w0 is N K e) → GO w0 is N o e Q K) (hw : Want ops e o true := by exact .free rfl) : G w0 is N ops Q (o :: rest) e := g_op hw h
theorem gao (i : Nat) (h : ∀ K : Act → World → Prop, (∀ is e, (∀ w, Mem w0 w is → Mem w0 w is0) → GA w0 is0 is N ops Q fuel (listed.setIfInBounds i true) e → GK w0 is N K e) → GO w0 is N o e Q K) (hi : ops[i]? = some o := by rfl) (hr : Region.ready .any ops listed = [i] := by kernel_rfl) (hw : Want ops e o true := by exact .free rfl) : GA w0 is0 is N ops Q (fuel + 1) listed e := ga_op i hr hi hw h
theorem gc_sr {Q : Exit → Act → World → Prop} {id : Nat} {l' : List Oper} {y : Code} (h : ∀ K : Act → World → Prop, (∀ is e, GC w0 is N y Q e → GK w0 is N K e) → G w0 is N l'.toArray (Exit.then K Q) l' e) : GC w0 is N (.seq (.region id l'.toArray false) y) Q e := gc_seq fun K hK => gc_region (h K hK)
theorem gc_loopT {c : Code} {σ : Type} {Q : Exit → Act → World → Prop} (C : Env) (F : σ → Env × List (Nat × Itm) × Prop × Nat) (s0 : σ) (hC : Sub ((F s0).1 ++ C) e) (ht : updL is (F s0).2.1 = is) (h0 : (F s0).2.2.1)
    (round : ∀ s, (F s).2.2.1 → ∀ K : Act → World → Prop, (∀ s', (F s').2.2.1 → (F s').2.2.2 < (F s).2.2.2 → GK w0 (updL is (F s').2.1) N K ((F s').1 ++ C)) → GC w0 (updL is (F s).2.1) N c (Exit.then K Q) ((F s).1 ++ C)) :
    GC w0 is N (.loop c) Q e := gc_loop C (fun s => (F s).1) (fun s => (F s).2.1) (fun s => (F s).2.2.1) (fun s => (F s).2.2.2) s0 hC ht h0 round
theorem gnt (h : GK w0 is N K e) : G w0 is N ops (Exit.then K Q) [] e := g_nil (gk_then h)
theorem gm {x : Operand} (hk : G w0 is N ops Q rest ((d, v) :: e)) (hop : o.op = .move x := by rfl) (hx : evo e x = some v := by rfl) (hw : Want ops e o true := by exact .free rfl) (hd : o.dst = some d := by rfl) (hN : Nat.blt d N = true := by rfl) : G w0 is N ops Q (o :: rest) e := g_v hw hd hN (qt_move hop hx) hk
theorem gas {x : Operand} (hk : G w0 is N ops Q rest ((d, v) :: e)) (hop : o.op = .assign x := by rfl) (hx : evo e x = some v := by rfl) (hw : Want ops e o true := by exact .free rfl) (hd : o.dst = some d := by rfl) (hN : Nat.blt d N = true := by rfl) : G w0 is N ops Q (o :: rest) e := g_v hw hd hN (qt_assign hop hx) hk
theorem sA : (∀ {p : Prop} [Decidable p], (decide p = true) = p) ∧ (∀ {p : Prop} [Decidable p], (decide p = false) ↔ ¬ p) ∧ (∀ {a b : Bool}, ((!a) = b) ↔ (a = !b)) ∧ ((!true) = false) ∧ ((!false) = true) ∧ (∀ {p : Prop} [Decidable p], ¬ ¬ p ↔ p) ∧ (∀ (a b : Int), (a ≠ b) = ¬ a = b) ∧ (∀ (a b : Nat), (a ≠ b) = ¬ a = b) ∧ (∀ (a b : Bool), (a ≠ b) = ¬ a = b) :=
  ⟨decide_eq_true_eq, decide_eq_false_iff_not, Bool.not_eq_eq_eq_not, rfl, rfl, Decidable.not_not, fun _ _ => rfl, fun _ _ => rfl, fun _ _ => rfl⟩
theorem sL : (∀ (l : List Itm), [] ++ l = l) ∧ (∀ (a : Itm) (l m : List Itm), a :: l ++ m = a :: (l ++ m)) ∧ (∀ (l m k : List Itm), l ++ m ++ k = l ++ (m ++ k)) ∧ (∀ (a b : Itm) (n : Nat) (l : List Itm), (a :: l).set (n + 1) b = a :: l.set n b) ∧ (∀ (a b : Itm) (l : List Itm), (a :: l).set 0 b = b :: l) ∧ (∀ (l : Env), [] ++ l = l) ∧ (∀ (a : Nat × Value) (l m : Env), a :: l ++ m = a :: (l ++ m)) :=
  ⟨fun _ => rfl, fun _ _ _ => rfl, List.append_assoc, fun _ _ _ _ => rfl, fun _ _ _ => rfl, fun _ => rfl, fun _ _ _ => rfl⟩
theorem sU : (∀ (l : List Itm) (p : Nat × Itm) (c : List (Nat × Itm)), updL l (p :: c) = updL (l.set p.1 p.2) c) ∧ (∀ (l : List Itm), updL l [] = l) := ⟨fun _ _ _ => rfl, fun _ => rfl⟩
theorem qtf {x : Operand} {s : TypeId} {n B j : Nat} {fs : Array Field} {f : Field} (hs : Try.prog.underlying s = some (.struct fs)) {z off : Nat} (hop : o.op = .fieldAddr s x n := by rfl) (hx : evo e x = some (.pointer (some ⟨B, j, none⟩)) := by rfl) (hf : fs[n]? = some f := by rfl) (hz : (Try.prog.info? f.type).map (·.size) = some (z + 1) := by kernel_rfl) (ho : f.offset = off := by rfl) : QV w0 is o e (.pointer (some ⟨B, j + off, none⟩)) := qt_field hop hx hs hf hz ho
theorem qtl {x : Operand} {t tb : TypeId} {n B j : Nat} {cs : List Value} {td : TypeDesc} (ht : Try.prog.underlying t = some td) (hop : o.op = .load t x := by rfl) (hx : evo e x = some (.pointer (some ⟨B, j, none⟩)) := by rfl) (hi : is[n]? = some (bxI B tb cs) := by rfl) (hv : cs[j]? = some v := by rfl) (hd : aggT td = false := by rfl) : QV w0 is o e v := qt_loadB hop hx ht hd hi hv
theorem qts {x : Operand} {t tb : TypeId} {n B : Nat} {cs : List Value} {td : TypeDesc} (ht : Try.prog.underlying t = some td) (hop : o.op = .load t x := by rfl) (hx : evo e x = some (.pointer (some ⟨B, 0, none⟩)) := by rfl) (hi : is[n]? = some (bxI B tb cs) := by rfl) (hd : aggT td = true := by rfl) (hs : (Try.prog.info? t).map (·.size) = some cs.length := by kernel_rfl) : QV w0 is o e (.agg cs.toArray) := qt_loadS hop hx ht hd hs hi
theorem qti {x y : Operand} {n : Nat} {i : Int} (hl : ∀ w, Mem w0 w is → LenA v n) (hop : o.op = .indexAddr 24 x y := by rfl) (hx : evo e x = some v := by rfl) (hy : evo e y = some (.int .i64 i) := by rfl) (h0 : 0 ≤ i := by omega) (h1 : i < (n : Int) := by omega) : QV w0 is o e (eltP v i) := qt_index hop hx hy ulE1 szE1 hl h0 h1
theorem qti2 {x y : Operand} {n : Nat} {i : Int} (hl : ∀ w, Mem w0 w is → LenA v n) (hop : o.op = .indexAddr 25 x y := by rfl) (hx : evo e x = some v := by rfl) (hy : evo e y = some (.int .i64 i) := by rfl) (h0 : 0 ≤ i := by omega) (h1 : i < (n : Int) := by omega) : QV w0 is o e (eltP v i) := qt_index hop hx hy ulE2 szE2 hl h0 h1
theorem qtd {x : Operand} {u : Value} {xs : List Int} {i : Int} (hr : ∀ w, Mem w0 w is → Rd w u xs) (hop : o.op = .load 2 x := by rfl) (hx : evo e x = some (eltP u i) := by rfl) (h0 : 0 ≤ i := by omega) (h1 : i < xs.length := by omega) : QV w0 is o e (.int .i64 (at0 xs i)) := qt_load1 hop hx underlying2 rfl hr h0 h1
theorem qln {x : Operand} {n : Nat} (hl : ∀ w, Mem w0 w is → LenV v n) (hop : o.op = .call { callee := .builtin .len, args := #[x], argTypes := #[24] } := by rfl) (hx : evo e x = some v := by rfl) : QV w0 is o e (.int .i64 (n : Int)) := qt_len hop hx ulE1 hl
end
end Go.Proofs.Ytbiplocgenppoaa
