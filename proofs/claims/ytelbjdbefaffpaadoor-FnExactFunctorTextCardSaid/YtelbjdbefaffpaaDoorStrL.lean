
/- Lists of strings of the call's own. -/
import Derived.Test.YtelbjdbefaffpaaDoorStr
import Derived.Test.YtelbjdbefaffpaaDoorClo
import Derived.Test.YtelbjdbefaffpaaDoorEnt
set_option linter.unusedSimpArgs false
set_option linter.unusedVariables false
set_option linter.unusedSectionVars false
namespace Go.Proofs.YtelbjdbefaffpaaDoor
open Go.RowKit


theorem infoStr : (Tryd.prog.info? 9).map (fun i => (i.zero, i.size, i.bytes)) = some (some (.string .empty), 1, 16) := by kernel_rfl
theorem ulTx : Tryd.prog.underlying 58 = some (.slice 9) := by kernel_rfl
theorem elTx : Tryd.prog.elem 58 = 9 := by kernel_rfl
def OwnTx (v : Value) (ls : List (List UInt8)) (w : World) (S : Nat → Prop) : Prop := w.ownsRow 0 9 1 v ls.length (ls.map sT) ∧ ls.length ≤ 1000000 ∧ ∀ q, v.ownBlock = some q → S q
theorem ownTx_loc (v : Value) (ls : List (List UInt8)) : Loc (OwnTx v ls) where
  keep hs ha h := ⟨own_agree h.1 fun q hq e => ha q hq (h.2.2 q e), h.2.1, fun q hq => hs q (h.1.lt q hq).2 (h.2.2 q hq)⟩
/-- A list of strings of the call's own. -/
def ownTxI (v : Value) (ls : List (List UInt8)) : Itm := ⟨_, ownTx_loc v ls⟩
def RdTx (w : World) (v : Value) (ls : List (List UInt8)) : Prop :=
  ∃ (a : Option Addr) (cap : Nat), v = .slice a ls.length cap ∧ ls.length ≤ 1000000 ∧
    (0 < ls.length → ∃ b off, a = some ⟨b, off, none⟩ ∧ b < w.heap.size ∧ ls.length ≤ cap ∧ ∀ j (hj : j < ls.length), w.cell? ⟨b, off + j, none⟩ = some (sT ls[j]))
theorem rdTx_below {w w' : World} {v : Value} {ls : List (List UInt8)} (hb : Below w.heap.size w w') (h : RdTx w v ls) : RdTx w' v ls := by
  obtain ⟨a, cap, hv, hl, hc⟩ := h
  refine ⟨a, cap, hv, hl, fun h0 => ?_⟩
  obtain ⟨b, off, ha, hbs, hcap, hcell⟩ := hc h0
  exact ⟨b, off, ha, Nat.lt_of_lt_of_le hbs hb.size, hcap, fun j hj => (hb.cell (p := ⟨b, _, none⟩) hbs).trans (hcell j hj)⟩
theorem OwnTx.rd {w : World} {S : Nat → Prop} {v : Value} {ls : List (List UInt8)} (h : OwnTx v ls w S) : RdTx w v ls := by
  obtain ⟨h1, h2, h3⟩ := h
  rcases h1.2 with ⟨hv, hn⟩ | ⟨g, cap, cur, hv, _, hg, hcap, _⟩
  · exact ⟨none, 0, by rw [hv, hn], h2, fun h => by omega⟩
  · refine ⟨some ⟨g, 0, none⟩, cap, hv, h2, fun _ => ⟨g, 0, rfl, (Array.getElem?_eq_some_iff.1 hg).1, hcap, fun j hj => ?_⟩⟩
    subst hv
    have := h1.cells (g := g) rfl j (sT ls[j]) (by simp [List.getElem?_eq_getElem hj])
    rw [Addr.add_mid] at this; exact this
theorem ownTx_form {w : World} {S : Nat → Prop} {v : Value} {ls : List (List UInt8)} (h : OwnTx v ls w S) : ∃ a cap, v = .slice a ls.length cap := let ⟨a, cap, hv, _⟩ := h.rd; ⟨a, cap, hv⟩
theorem lenV_Tx {w : World} {v : Value} {ls : List (List UInt8)} (h : RdTx w v ls) : LenV v ls.length := let ⟨a, cap, hv, _⟩ := h; ⟨a, cap, hv⟩
/-- Lists of strings, as they read. -/
def RdTT (w : World) (v : Value) (lss : List (List (List UInt8))) : Prop :=
  ∃ (a : Option Addr) (cap : Nat), v = .slice a lss.length cap ∧ lss.length ≤ 1000000 ∧
    (0 < lss.length → ∃ b off, a = some ⟨b, off, none⟩ ∧ b < w.heap.size ∧ ∀ j (hj : j < lss.length), ∃ u, w.cell? ⟨b, off + j, none⟩ = some u ∧ RdTx w u lss[j])
theorem lenV_TT {w : World} {v : Value} {lss : List (List (List UInt8))} (h : RdTT w v lss) : LenV v lss.length := let ⟨a, cap, hv, _⟩ := h; ⟨a, cap, hv⟩
theorem lenA_TT {w : World} {v : Value} {lss : List (List (List UInt8))} (h : RdTT w v lss) : LenA v lss.length := let ⟨a, cap, hv, _, hc⟩ := h; ⟨a, cap, hv, fun h0 => let ⟨b, off, ha, _⟩ := hc h0; ⟨b, off, ha⟩⟩
theorem rdTT_below {w w' : World} {v : Value} {lss : List (List (List UInt8))} (hb : Below w.heap.size w w') (h : RdTT w v lss) : RdTT w' v lss := by
  obtain ⟨a, cap, hv, hl, hc⟩ := h
  refine ⟨a, cap, hv, hl, fun h0 => ?_⟩
  obtain ⟨b, off, ha, hbs, hcell⟩ := hc h0
  refine ⟨b, off, ha, Nat.lt_of_lt_of_le hbs hb.size, fun j hj => ?_⟩
  obtain ⟨u, hu, hr⟩ := hcell j hj
  exact ⟨u, (hb.cell (p := ⟨b, _, none⟩) hbs).trans hu, rdTx_below hb hr⟩
theorem rdTT_form {w : World} {v : Value} {lss : List (List (List UInt8))} (h : RdTT w v lss) : ∃ a cap, v = .slice a lss.length cap := let ⟨a, cap, hv, _⟩ := h; ⟨a, cap, hv⟩
def atT (lss : List (List (List UInt8))) (i : Int) : List (List UInt8) := lss.getD i.toNat []
def RetTx (W : World) (ls : List (List UInt8)) (e : Ending) (w : World) : Prop := ∃ v, e = .returned v ∧ OwnTx v ls w (fun k => W.heap.size ≤ k) ∧ Below W.heap.size W w
section
variable {w0 : World} {is : List Itm} {ops : Array Oper} {Q : Exit → Act → World → Prop} {o : Oper} {rest : List Oper} {N n m : Nat} {e : Env} {v : Value} {d : Nat} {K : Act → World → Prop} {f : FuncId} {fn : Func} {ags : Array Operand} {ts : Array TypeId} {vs : List Value}
theorem mem_rdTx {w : World} {ls : List (List UInt8)} (M : Mem w0 w is) (h : RdTx w0 v ls) : RdTx w v ls := rdTx_below M.1 h
theorem mem_rdTT {w : World} {lss : List (List (List UInt8))} (M : Mem w0 w is) (h : RdTT w0 v lss) : RdTT w v lss := rdTT_below M.1 h
theorem mem_ownTx {w : World} {ls : List (List UInt8)} (M : Mem w0 w is) (h : is[n]? = some (ownTxI v ls)) : RdTx w v ls := by
  obtain ⟨S, _, hb⟩ := mem_get M h
  exact OwnTx.rd (S := S) hb
theorem go_callTx {ls : List (List UInt8)} (hd : o.dst = some d) (hN : Nat.blt d N = true) (hop : o.op = .call { callee := .value (.func f), args := ags, argTypes := ts }) (hfn : Tryd.prog.funcs[f]? = some fn) (hb : fn.body.isNone = false) (hn : (fn.name == "runtime.NumGoroutine") = false)
    (hargs : evoL e ags.toList = some vs) (hc : ∀ w, Mem w0 w is → Calls Tryd.prog f vs.toArray w (RetTx w ls)) (hk : ∀ a cap, GK w0 (is ++ [ownTxI (.slice a ls.length cap) ls]) N K ((d, .slice a ls.length cap) :: e)) : GO w0 is N o e Q K := by
  intro w a M F
  refine go_call hd hN F hop hfn hb hn hargs (hc w M) fun e' w' hR => ?_
  obtain ⟨v, rfl, hs, hbl⟩ := hR
  obtain ⟨va, vc, rfl⟩ := ownTx_form hs
  exact ⟨_, rfl, fun a F => hk va vc w' a (mem_new M hbl hs) F⟩
theorem go_sliceTx1 {t : TypeId} {x : Operand} {l : List UInt8} (hd : o.dst = some d) (hN : Nat.blt d N = true) (hop : o.op = .buildSlice t 1 #[(0, x)]) (hx : evo e x = some (sT l)) (ht : t = 58)
    (hk : ∀ B : Nat, GK w0 (is ++ [ownTxI (.slice (some ⟨B, 0, none⟩) 1 1) [l]]) N K ((d, .slice (some ⟨B, 0, none⟩) 1 1) :: e)) : GO w0 is N o e Q K := by
  subst ht
  intro w ac M F
  have hO : OwnTx (.slice (some ⟨w.heap.size, 0, none⟩) 1 1) [l] (w.alloc (.cells #[sT l] 9)) (fun k => w.heap.size ≤ k) :=
    ⟨⟨rfl, .inr ⟨w.heap.size, 1, #[sT l], rfl, Nat.zero_le _, heap_alloc_new w _, Nat.le_refl _, by unfold maxLen; omega, rfl, rfl⟩⟩, by simp, fun q hq => by simp [Value.ownBlock] at hq; omega⟩
  refine go_val (v := .slice (some ⟨w.heap.size, 0, none⟩) 1 1) (w' := w.alloc (.cells #[sT l] 9)) hd hN F ?_ fun ac F => hk _ _ ac (mem_new M (below_alloc w _) hO) F
  intro ρ F; have hx := F _ _ hx
  obtain ⟨i, hi, hz, hs, hb⟩ := info_parts infoStr
  simp [execOp, hop, hx, Instr.buildSlice, run_underlying ulTx, sizeOf, typeInfo, hi, hs, Instr.fill, newRow, zeroValue, hz, Value.cells, Sem.run_bind]
  rw [fill1]
theorem go_appendTx {s x : Operand} {t : TypeId} {ls : List (List UInt8)} {u : Value} {l : List UInt8} (hd : o.dst = some d) (hN : Nat.blt d N = true) (hop : o.op = .call { callee := .builtin .append, args := #[s, x], argTypes := #[t, t] }) (ht : t = 58)
    (hs : evo e s = some v) (hx : evo e x = some u) (hi : is[n]? = some (ownTxI v ls)) (hj : is[m]? = some (ownTxI u [l])) (hn : ls.length + 1 ≤ 1000000)
    (hk : ∀ a cap, GK w0 (is.set n (ownTxI (.slice a (ls ++ [l]).length cap) (ls ++ [l]))) N K ((d, .slice a (ls ++ [l]).length cap) :: e)) : GO w0 is N o e Q K := by
  subst ht
  intro w ac M F
  obtain ⟨ad, cap, hu, _, hc⟩ := mem_ownTx M hj
  obtain ⟨b, off, ha, _, _, hcell⟩ := hc (by simp)
  subst ha
  have hv : u = .slice (some ⟨b, off, none⟩) 1 cap := hu
  have h0 := hcell 0 (by simp)
  obtain ⟨S, hS, hp, hset⟩ := mem_set M hi
  have hp : OwnTx v ls w S := hp
  obtain ⟨i, hi', hz, hs1, hb⟩ := info_parts infoStr
  obtain ⟨v', w', hr, hown, hgrow, _, hat⟩ := run_append_own_at (P := Tryd.prog) w 0 58 o.type 9 i (.string .empty) 1 16 ulTx hi' hz hs1 hb rfl (by omega) v ls.length (ls.map sT) hp.1 ⟨b, off, none⟩ 1 cap [sT l] rfl (fun j z hz => by
      match j with
      | 0 => simp at hz; subst hz; simpa [Addr.add] using h0
      | j + 1 => simp at hz) (fun z hz => by simp at hz; subst hz; rfl) (by unfold maxLen; omega) (by omega) (Nat.zero_le _)
  have hO : OwnTx v' (ls ++ [l]) w' (fun k => S k ∨ w.heap.size ≤ k) := by
    refine ⟨by simpa using hown, by simpa using hn, fun q hq => ?_⟩
    rcases hat with hat | hat
    · exact .inl (hp.2.2 q (by rw [← hat]; exact hq))
    · rw [hat] at hq
      simp only [Option.some.injEq] at hq
      exact .inr (by omega)
  obtain ⟨va, vc, rfl⟩ := ownTx_form hO
  refine go_val (v := .slice va (ls ++ [l]).length vc) (w' := w') hd hN F ?_ fun ac F => hk va vc w' ac (hset w' (ownTxI (.slice va (ls ++ [l]).length vc) (ls ++ [l])) (frS_grown hgrow hp.2.2) hO) F
  intro ρ F; have hs := F _ _ hs; have hx := F _ _ hx
  simp only [execOp, hop, resolve, invoke, builtin, Sem.run_bind, Sem.run_pure, Result.andThen_ok, List.map_toArray, List.map_cons, List.map_nil, hs, hx, hv]
  rw [hr]
  rfl
theorem mem_nilTx {w : World} (M : Mem w0 w is) : Mem w0 w (is ++ [ownTxI (.slice none 0 0) []]) :=
  mem_new M (Below.refl _ _) ⟨World.ownsRow_nil w 0 _ _, Nat.zero_le _, fun q hq => by simp [Value.ownBlock] at hq⟩
theorem gc_nilTx {c : Code} (hk : GC w0 (is ++ [ownTxI (.slice none 0 0) []]) N c Q e) : GC w0 is N c Q e := fun w a M F => hk w a (mem_nilTx M) F
theorem qt_loadTT {x : Operand} {t : TypeId} {u : Value} {lss : List (List (List UInt8))} {i : Int} {td : TypeDesc} (hop : o.op = .load t x) (hx : evo e x = some (eltP u i)) (ht : Tryd.prog.underlying t = some td) (hd : aggT td = false)
    (hr : RdTT w0 u lss) (h0 : 0 ≤ i) (h1 : i < lss.length) : ∃ r, RdTx w0 r (atT lss i) ∧ QV w0 is o e r := by
  obtain ⟨a, cap, hv, _, hc⟩ := hr
  obtain ⟨b, off, ha, hb, hcell⟩ := hc (by omega)
  subst ha; subst hv
  obtain ⟨r, hr1, hr2⟩ := hcell i.toNat (by omega)
  have he : atT lss i = lss[i.toNat] := by simp [atT, List.getD_eq_getElem?_getD, List.getElem?_eq_getElem (show i.toNat < lss.length by omega)]
  refine ⟨r, by rw [he]; exact hr2, fun w ac M F => ?_⟩
  have hx := F _ _ hx
  have hcw : w.cell? ⟨b, off + i.toNat, none⟩ = some r := (M.1.cell (p := ⟨b, _, none⟩) hb).trans hr1
  simp [execOp, hop, hx, eltP, run_load1 ht hd hcw]
end


theorem join_any (w : World) (v : Value) (ls : List (List UInt8)) (sep : List UInt8) (h : RdTx w v ls) (hl : (Lib.join ls sep).length ≤ 1000000) :
    Calls Tryd.prog 53 #[v, sT sep] w (RetS w (Lib.join ls sep)) := by
  obtain ⟨a, cap, rfl, hn, hc⟩ := h
  by_cases h0 : ls.length = 0
  · obtain rfl : ls = [] := List.eq_nil_of_length_eq_zero h0
    refine (Tryd.strings_Join_none a cap ⟨sep.toArray⟩ w).mono ?_
    rintro e w' ⟨rfl, rfl⟩
    exact ⟨rfl, Below.refl _ _⟩
  · obtain ⟨b, off, rfl, hb, hcap, hcell⟩ := hc (by omega)
    have hm : (ls.map fun l => (⟨l.toArray⟩ : ByteArray)).map (·.data.toList) = ls := by simp [Function.comp_def]
    have := Tryd.strings_Join b off cap (ls.map fun l => ⟨l.toArray⟩) ⟨sep.toArray⟩ w (fun j x hx => by
      simp only [List.getElem?_map, Option.map_eq_some_iff] at hx
      obtain ⟨l, hl1, rfl⟩ := hx
      obtain ⟨hj, rfl⟩ := List.getElem?_eq_some_iff.1 hl1
      exact hcell j hj) hb (by simp; omega) (by simpa using hcap) (by rw [hm]; show (Lib.join ls sep).length ≤ _; omega)
    rw [hm, List.length_map] at this
    exact this
theorem ulETx : Tryd.prog.underlying 58 = some (.slice (Tryd.prog.elem 58)) := by kernel_rfl
theorem ulETT : Tryd.prog.underlying 73 = some (.slice (Tryd.prog.elem 73)) := by kernel_rfl
theorem szETT : (Tryd.prog.info? (Tryd.prog.elem 73)).map (fun i => i.size) = some 1 := by kernel_rfl
theorem infoTx : (Tryd.prog.info? 58).map (fun i => (i.zero, i.size, i.bytes)) = some (some (.slice none 0 0), 1, 24) := by kernel_rfl
theorem ulTT : Tryd.prog.underlying 73 = some (.slice 58) := by kernel_rfl
theorem fill4 (f : Nat → Value) (a b c d : Value) : ((((Array.map f (Array.range 4)).setIfInBounds 0 a).setIfInBounds 1 b).setIfInBounds 2 c).setIfInBounds 3 d = #[a, b, c, d] := by
  apply Array.ext'
  simp only [Array.toList_setIfInBounds, Array.toList_map, Array.toList_range]
  rfl
theorem rdTT_4 {w : World} {B : Nat} {v1 v2 v3 v4 : Value} {l1 l2 l3 l4 : List (List UInt8)} (hb : Bx w B 58 [v1, v2, v3, v4]) (h1 : RdTx w v1 l1) (h2 : RdTx w v2 l2) (h3 : RdTx w v3 l3) (h4 : RdTx w v4 l4) : RdTT w (.slice (some ⟨B, 0, none⟩) 4 4) [l1, l2, l3, l4] := by
  have hc : w.heap[B]? = some (.cells #[v1, v2, v3, v4] 58 (0, 0)) := hb
  refine ⟨_, _, rfl, by simp, fun _ => ⟨B, 0, rfl, (Array.getElem?_eq_some_iff.1 hc).1, fun j hj => ?_⟩⟩
  match j, hj with
  | 0, _ => exact ⟨v1, by simp [World.cell?, hc], h1⟩
  | 1, _ => exact ⟨v2, by simp [World.cell?, hc], h2⟩
  | 2, _ => exact ⟨v3, by simp [World.cell?, hc], h3⟩
  | 3, _ => exact ⟨v4, by simp [World.cell?, hc], h4⟩
  | n + 4, hj => simp at hj; omega
section
variable {w0 : World} {is : List Itm} {ops : Array Oper} {Q : Exit → Act → World → Prop} {o : Oper} {rest : List Oper} {N n m : Nat} {e : Env} {v : Value} {d : Nat} {K : Act → World → Prop}
theorem go_sliceTT4 {t : TypeId} {x1 x2 x3 x4 : Operand} {a1 a2 a3 a4 : Option Addr} {n1 n2 n3 n4 c1 c2 c3 c4 : Nat} (hd : o.dst = some d) (hN : Nat.blt d N = true) (hop : o.op = .buildSlice t 4 #[(0, x1), (1, x2), (2, x3), (3, x4)]) (h1 : evo e x1 = some (.slice a1 n1 c1)) (h2 : evo e x2 = some (.slice a2 n2 c2)) (h3 : evo e x3 = some (.slice a3 n3 c3)) (h4 : evo e x4 = some (.slice a4 n4 c4)) (ht : t = 73)
    (hk : ∀ B : Nat, GK w0 (is ++ [bxI B 58 [.slice a1 n1 c1, .slice a2 n2 c2, .slice a3 n3 c3, .slice a4 n4 c4]]) N K ((d, .slice (some ⟨B, 0, none⟩) 4 4) :: e)) : GO w0 is N o e Q K := by
  subst ht
  intro w ac M F
  refine go_val (v := .slice (some ⟨w.heap.size, 0, none⟩) 4 4) (w' := w.alloc (.cells #[.slice a1 n1 c1, .slice a2 n2 c2, .slice a3 n3 c3, .slice a4 n4 c4] 58)) hd hN F ?_ fun ac F => hk _ _ ac (mem_new M (below_alloc w _) ⟨heap_alloc_new w _, Nat.le_refl _⟩) F
  intro ρ F; have h1 := F _ _ h1; have h2 := F _ _ h2; have h3 := F _ _ h3; have h4 := F _ _ h4
  obtain ⟨i, hi, hz, hs, hb⟩ := info_parts infoTx
  simp [execOp, hop, h1, h2, h3, h4, Instr.buildSlice, run_underlying ulTT, sizeOf, typeInfo, hi, hs, Instr.fill, newRow, zeroValue, hz, Value.cells, Sem.run_bind]
  rw [fill4]
theorem g_loadTT {x : Operand} {t : TypeId} {u : Value} {lss : List (List (List UInt8))} {i : Int} {td : TypeDesc} (hw : Want ops e o true) (hd : o.dst = some d) (hN : Nat.blt d N = true) (hop : o.op = .load t x) (hx : evo e x = some (eltP u i)) (ht : Tryd.prog.underlying t = some td) (ha : aggT td = false)
    (hr : RdTT w0 u lss) (h0 : 0 ≤ i) (h1 : i < lss.length) (hk : ∀ a cap, RdTx w0 (.slice a (atT lss i).length cap) (atT lss i) → G w0 is N ops Q rest ((d, .slice a (atT lss i).length cap) :: e)) : G w0 is N ops Q (o :: rest) e := by
  obtain ⟨r, hr1, hq⟩ := qt_loadTT (o := o) (is := is) hop hx ht ha hr h0 h1
  obtain ⟨ra, rc, rfl⟩ := lenV_Tx hr1
  exact g_v hw hd hN hq (hk ra rc hr1)
theorem qt_eqS {x y : Operand} {t u : TypeId} {a b : List UInt8} (hop : o.op = .binOp .eql t x y u) (hx : evo e x = some (sT a)) (hy : evo e y = some (sT b)) : QV w0 is o e (.bool (decide (a = b))) :=
  fun w ac M F => by
    have hx := F _ _ hx; have hy := F _ _ hy
    simp [execOp, hop, hx, hy, eqGuard, binOp, Op.stringOp, Sem.run_bind, Sem.run_pure, Lib.toList_data]
    exact Bool.eq_iff_iff.2 (by simp)
theorem qt_sliceS1 {x : Operand} {t : TypeId} {l : List UInt8} (hop : o.op = .slice t x (some (.const (.int .i64 1))) none none) (hx : evo e x = some (sT l)) (ht : Tryd.prog.underlying t = some .string) (h : 1 ≤ l.length) : QV w0 is o e (sT (l.drop 1)) :=
  fun w ac M F => by
    have hx := F _ _ hx
    have hc := F (.const (.int .i64 1)) (.int .i64 1) rfl
    have e1 : (⟨l.toArray⟩ : ByteArray).extract 1 l.length = ⟨(l.drop 1).toArray⟩ := by
      apply ByteArray.ext; simp
      exact List.take_of_length_le (by simp)
    have hs : (⟨l.toArray⟩ : ByteArray).size = l.length := by simp [ByteArray.size]
    simp [execOp, hop, hx, hc, Instr.sliceAt, Instr.slice, run_underlying ht, Instr.sliceBounds, Instr.sliceBound, asIntOf, Sem.run_bind, Sem.run_pure, hs, h, e1]
    intro hlt; omega
end

end Go.Proofs.YtelbjdbefaffpaaDoor
