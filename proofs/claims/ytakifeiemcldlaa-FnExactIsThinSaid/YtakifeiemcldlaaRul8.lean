
/- The rules of a walk in blocks of its own: lists of truth values. -/
import Derived.Test.YtakifeiemcldlaaRul7
namespace Go.Proofs.Ytakifeiemcldlaa
open Go.RowKit
theorem infoBl : (Try.prog.info? 4).map (fun i => (i.zero, i.size, i.bytes)) = some (some (.bool false), 1, 1) := by kernel_rfl
theorem ulEB : Try.prog.underlying 80 = some (.slice (Try.prog.elem 80)) := by kernel_rfl
theorem szEB : (Try.prog.info? (Try.prog.elem 80)).map (fun i => i.size) = some 1 := by kernel_rfl
def OwnB (v : Value) (bs : List Bool) (w : World) (S : Nat → Prop) : Prop := w.ownsRow 0 4 1 v bs.length (bs.map Value.bool) ∧ ∀ q, v.ownBlock = some q → S q
theorem ownB_loc (v : Value) (bs : List Bool) : Loc (OwnB v bs) where
  keep hs ha h := ⟨own_agree h.1 fun q hq e => ha q hq (h.2 q e), fun q hq => hs q (h.1.lt q hq).2 (h.2 q hq)⟩
/-- A list of truth values of the call's own. -/
def ownBI (v : Value) (bs : List Bool) : Itm := ⟨_, ownB_loc v bs⟩
def atB (bs : List Bool) (i : Int) : Bool := bs.getD i.toNat false
section
variable {w0 : World} {is : List Itm} {ops : Array Oper} {Q : Exit → Act → World → Prop} {o : Oper} {rest : List Oper} {N : Nat} {e : Env} {v : Value} {d : Nat} {K : Act → World → Prop}
theorem lenA_B {n : Nat} {bs : List Bool} (h : is[n]? = some (ownBI v bs)) {w : World} (M : Mem w0 w is) : LenA v bs.length := by
  obtain ⟨S, _, hb⟩ := mem_get M h
  have hb' : OwnB v bs w S := hb
  rcases hb'.1.2 with ⟨hv, hn⟩ | ⟨g, cap, cur, hv, _⟩
  · exact ⟨none, 0, by rw [hv, hn], fun h => by omega⟩
  · exact ⟨_, cap, hv, fun _ => ⟨g, 0, rfl⟩⟩
theorem lenV_B {n : Nat} {bs : List Bool} (h : is[n]? = some (ownBI v bs)) {w : World} (M : Mem w0 w is) : LenV v bs.length := by
  obtain ⟨a, cap, hv, _⟩ := lenA_B h M
  exact ⟨a, cap, hv⟩
theorem qt_loadBool {x : Operand} {t : TypeId} {u : Value} {n : Nat} {bs : List Bool} {i : Int} {td : TypeDesc} (hop : o.op = .load t x) (hx : evo e x = some (eltP u i)) (ht : Try.prog.underlying t = some td) (hd : aggT td = false)
    (hi : is[n]? = some (ownBI u bs)) (h0 : 0 ≤ i) (h1 : i < bs.length) : QV w0 is o e (.bool (atB bs i)) :=
  fun w ac M F => by
    have hx := F _ _ hx
    obtain ⟨S, _, hb⟩ := mem_get M hi
    have hb' : OwnB u bs w S := hb
    rcases hb'.1.2 with ⟨_, hn⟩ | ⟨g, cap, cur, rfl, _⟩
    · omega
    · have hc : w.cell? ⟨g, i.toNat, none⟩ = some (.bool (atB bs i)) := by
        rw [hb'.1.cellAt i.toNat (by omega)]
        simp [atB, List.getD_eq_getElem?_getD, List.getElem?_eq_getElem (show i.toNat < bs.length by omega)]
      have he : eltP (.slice (some ⟨g, 0, none⟩) bs.length cap) i = .pointer (some ⟨g, i.toNat, none⟩) := by simp [eltP]
      simp [execOp, hop, hx, he, run_load1 ht hd hc]
theorem go_storeBool {t : TypeId} {x y : Operand} {n : Nat} {bs : List Bool} {b : Bool} {i : Int} (hd : o.dst = none) (hop : o.op = .store t x y) (hx : evo e x = some (eltP v i)) (hy : evo e y = some (.bool b))
    (hs : (Try.prog.info? t).map (·.size) = some 1) (hi : is[n]? = some (ownBI v bs)) (h0 : 0 ≤ i) (h1 : i < bs.length)
    (hk : GK w0 (is.set n (ownBI v (bs.set i.toNat b))) N K e) : GO w0 is N o e Q K := by
  intro w ac M F
  obtain ⟨S, hS, hp, hset⟩ := mem_set M hi
  have hp' : OwnB v bs w S := hp
  rcases hp'.1.2 with ⟨_, hn⟩ | ⟨g, cap, cur, rfl, _⟩
  · omega
  have hcell : w.cell? ⟨g, i.toNat, none⟩ = some (.bool (atB bs i)) := by
    rw [hp'.1.cellAt i.toNat (by omega)]
    simp [atB, List.getD_eq_getElem?_getD, List.getElem?_eq_getElem (show i.toNat < bs.length by omega)]
  have hfz := hp'.1.frozenAt i.toNat
  have hst := hp'.1.stored i.toNat (.bool b)
  have h3 : OwnB (.slice (some ⟨g, 0, none⟩) bs.length cap) (bs.set i.toNat b) (w.setCell ⟨g, i.toNat, none⟩ (.bool b)) (fun k => S k ∨ w.heap.size ≤ k) := by
    refine ⟨?_, fun q hq => .inl (hp'.2 q hq)⟩
    have := hst.1
    rw [← List.map_set] at this
    simpa using this
  refine go_skip (w' := w.setCell ⟨g, i.toNat, none⟩ (.bool b)) hd F ?_ fun ac F => hk _ ac (hset _ _ ⟨hst.2.os, hst.2.tape, hst.2.output, hst.2.size, fun q hq hs => hst.2.block q hq fun e => hs (by rw [Option.some.inj e]; exact hp'.2 g rfl)⟩ h3) F
  intro ρ F; have hx := F _ _ hx; have hy := F _ _ hy
  have he : eltP (.slice (some ⟨g, 0, none⟩) bs.length cap) i = .pointer (some ⟨g, i.toNat, none⟩) := by simp [eltP]
  simp [execOp, hop, hx, hy, he, run_store1 hs (u := .bool b) rfl rfl hcell hfz]
theorem go_makeB {x y : Operand} {t : TypeId} {n : Nat} (hd : o.dst = some d) (hN : Nat.blt d N = true) (hop : o.op = .makeSlice t x y) (ht : Try.prog.underlying t = some (.slice 4)) (hx : evo e x = some (.int .i64 (n : Int))) (hy : evo e y = some (.int .i64 (n : Int))) (hn : n ≤ 17592186044415)
    (hk : ∀ B : Nat, GK w0 (is ++ [ownBI (.slice (some ⟨B, 0, none⟩) n n) (List.replicate n false)]) N K ((d, .slice (some ⟨B, 0, none⟩) n n) :: e)) : GO w0 is N o e Q K := by
  intro w ac M F
  obtain ⟨i, hi, hz, hs, hb⟩ := info_parts infoBl
  obtain ⟨w', hr, hown, hgrow⟩ := run_make_full (P := Try.prog) w w.heap.size t 4 i (.bool false) 1 ht hi hz hs .i64 .i64 n (by rw [hb]; omega) (by unfold maxLen; omega) (Nat.le_refl _)
  have hone : (madeCells #[Value.bool false] n).toList = (List.replicate n false).map Value.bool := by rw [toList_madeCells_one]; simp
  have hs' : OwnB (.slice (some ⟨w.heap.size, 0, none⟩) n n) (List.replicate n false) w' (fun k => w.heap.size ≤ k) := by
    simp only [Value.cells, Nat.mul_one] at hown
    rw [hone] at hown
    refine ⟨by simpa using own_base hown, fun q hq => by simp [Value.ownBlock] at hq; omega⟩
  refine go_val (v := .slice (some ⟨w.heap.size, 0, none⟩) n n) (w' := w') hd hN F ?_ fun ac F => hk w.heap.size w' ac (mem_new M ((Below.refl _ _).grown hgrow (Nat.le_refl _) (by simp)) hs') F
  intro ρ F; have hx := F _ _ hx; have hy := F _ _ hy
  simp only [execOp, hop, hx, hy, Sem.run_bind, hr, Result.andThen_ok]
  rfl
end
end Go.Proofs.Ytakifeiemcldlaa
