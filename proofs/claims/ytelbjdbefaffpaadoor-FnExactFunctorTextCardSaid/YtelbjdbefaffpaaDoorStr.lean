
/- Strings as values, decimal digits, and the line of an arrow: both sides. -/
import Derived.Test.YtelbjdbefaffpaaDoorIrr
import Derived.Test.YtelbjdbefaffpaaDoorTab
import Derived.Test.YtelbjdbefaffpaaDoorGrid
import Derived.Test.YtelbjdbefaffpaaDoorLib4
set_option linter.unusedSimpArgs false
set_option linter.unusedVariables false
set_option linter.unusedSectionVars false
namespace Go.Proofs.YtelbjdbefaffpaaDoor
open Go.RowKit


def RetSI (W : World) (l : List UInt8) (c : Int) (e : Ending) (w : World) : Prop := e = .returned (.tuple #[sT l, .int .i64 c]) ∧ Below W.heap.size W w
/-- One text behind another. -/
def cat (a b : List UInt8) : List UInt8 := a ++ b
theorem cat_len (a b : List UInt8) : (cat a b).length = a.length + b.length := List.length_append
theorem cat_assoc (a b c : List UInt8) : cat (cat a b) c = cat a (cat b c) := List.append_assoc ..
section
variable {w0 : World} {is : List Itm} {ops : Array Oper} {Q : Exit → Act → World → Prop} {o : Oper} {N n : Nat} {e : Env} {v : Value} {d : Nat} {K : Act → World → Prop} {f : FuncId} {fn : Func} {ags : Array Operand} {ts : Array TypeId} {vs : List Value}
theorem qt_addS {x y : Operand} {t u : TypeId} {a b : List UInt8} (hop : o.op = .binOp .add t x y u) (hx : evo e x = some (sT a)) (hy : evo e y = some (sT b)) (h : (cat a b).length ≤ 1000000) : QV w0 is o e (sT (cat a b)) :=
  fun w ac M F => by
    have hx := F _ _ hx; have hy := F _ _ hy
    have e1 : (⟨a.toArray⟩ : ByteArray) ++ ⟨b.toArray⟩ = ⟨(cat a b).toArray⟩ := by apply ByteArray.ext; simp [cat]
    have e2 : (⟨a.toArray⟩ : ByteArray).size + (⟨b.toArray⟩ : ByteArray).size ≤ 9223372036854775807 := by
      simp only [ByteArray.size, List.size_toArray]; rw [cat_len] at h; omega
    have := run_string_add_sum (P := Tryd.prog) (w := w) _ _ e2
    rw [e1] at this
    simp [execOp, hop, hx, hy, eqGuard, binOp, this, Sem.run_bind, Sem.run_pure]
theorem qt_neS_same {x y : Operand} {t u : TypeId} {a : List UInt8} (hop : o.op = .binOp .neq t x y u) (hx : evo e x = some (sT a)) (hy : evo e y = some (sT a)) : QV w0 is o e (.bool false) :=
  fun w ac M F => by
    have hx := F _ _ hx; have hy := F _ _ hy
    simp [execOp, hop, hx, hy, eqGuard, binOp, Op.stringOp, Sem.run_bind, Sem.run_pure]
theorem qt_convB {x : Operand} {s t : TypeId} {a : Int} (hop : o.op = .convert s t x) (hx : evo e x = some (.int .i64 a)) (hs : Tryd.prog.underlying s = some (.int .i64)) (ht : Tryd.prog.underlying t = some (.int .u8)) (h : 0 ≤ a ∧ a ≤ 255) : QV w0 is o e (.int .u8 a) :=
  fun w ac M F => by
    have hx := F _ _ hx
    simp [execOp, hop, hx, convert, run_underlying hs, run_underlying ht, Conv.intToInt]; exact IntWalk.u8_in _ h
theorem fill1 (f : Nat → Value) (a : Value) : (Array.map f (Array.range 1)).setIfInBounds 0 a = #[a] := by
  apply Array.ext'
  simp only [Array.toList_setIfInBounds, Array.toList_map, Array.toList_range]
  rfl
theorem infoU8 : (Tryd.prog.info? 5).map (fun i => (i.zero, i.size, i.bytes)) = some (some (.int .u8 0), 1, 1) := by kernel_rfl
theorem go_sliceY1 {t : TypeId} {x : Operand} {b : Int} (hd : o.dst = some d) (hN : Nat.blt d N = true) (hop : o.op = .buildSlice t 1 #[(0, x)]) (hx : evo e x = some (.int .u8 b)) (ht : Tryd.prog.underlying t = some (.slice 5))
    (hk : ∀ B : Nat, GK w0 (is ++ [bxI B 5 [.int .u8 b]]) N K ((d, .slice (some ⟨B, 0, none⟩) 1 1) :: e)) : GO w0 is N o e Q K := by
  intro w ac M F
  refine go_val (v := .slice (some ⟨w.heap.size, 0, none⟩) 1 1) (w' := w.alloc (.cells #[.int .u8 b] 5)) hd hN F ?_ fun ac F => hk _ _ ac (mem_new M (below_alloc w _) ⟨heap_alloc_new w _, Nat.le_refl _⟩) F
  intro ρ F; have hx := F _ _ hx
  obtain ⟨i, hi, hz, hs, hb⟩ := info_parts infoU8
  simp [execOp, hop, hx, Instr.buildSlice, run_underlying ht, sizeOf, typeInfo, hi, hs, Instr.fill, newRow, zeroValue, hz, Value.cells, Sem.run_bind]
  rw [fill1]
theorem qt_convY {x : Operand} {s t : TypeId} {n B : Nat} {b : Int} (hop : o.op = .convert s t x) (hx : evo e x = some (.slice (some ⟨B, 0, none⟩) 1 1)) (hs : Tryd.prog.underlying s = some (.slice 5)) (hu : Tryd.prog.underlying 5 = some (.int .u8)) (ht : Tryd.prog.underlying t = some .string)
    (hi : is[n]? = some (bxI B 5 [.int .u8 b])) : QV w0 is o e (sT [UInt8.ofNat b.toNat]) :=
  fun w ac M F => by
    have hx := F _ _ hx
    have hc : w.heap[B]? = some (.cells #[.int .u8 b] 5 (0, 0)) := mem_bx M hi
    have hl : (loadCells ⟨B, 0, none⟩ 1).run Tryd.prog w = .ok #[.int .u8 b] w := run_loadCells_list w ⟨B, 0, none⟩ [.int .u8 b] fun j v hj => by
      match j with
      | 0 => simp at hj; subst hj; simp [World.cell?, hc, Addr.add]
      | j + 1 => simp at hj
    simp [execOp, hop, hx, convert, run_underlying hs, run_underlying ht, run_underlying hu, Conv.bytesToString, hl, Sem.run_bind, ByteArray.push]
end
def dec (x : Int) : List UInt8 := Lib.decDigits x.toNat
theorem dec_1 {x : Int} (h0 : 0 ≤ x) (h : x < 10) : dec x = [UInt8.ofNat (48 + x).toNat] := by
  unfold dec; rw [Lib.decDigits, dif_pos (by omega)]; congr 2; omega
theorem dec_2 {x : Int} (h : ¬ x < 10) : dec x = cat (dec (x / 10)) [UInt8.ofNat (48 + x % 10).toNat] := by
  unfold dec cat; rw [Lib.decDigits, dif_neg (by omega)]
  congr 2
  · congr 1; omega
  · congr 1; omega
theorem dec_len {x : Int} (h0 : 0 ≤ x) (h : x < 100) : (dec x).length ≤ 2 := by
  by_cases h1 : x < 10
  · rw [dec_1 h0 h1]; simp
  · rw [dec_2 h1, dec_1 (by omega) (by omega), cat_len]; simp
def okFol (c : Cat) (f : Int) (g : Nat) : Prop := at0 c.t f = at0 c.s (g : Int) ∧ ¬ at0 c.e (at0 c.s (g : Int)) = (g : Int)
noncomputable def folL (c : Cat) (f : Int) (k : Nat) : List Int := filTo (okFol c f) (fun g => (g : Int)) k
theorem fol_t {c : Cat} {f : Int} {k : Nat} (h : okFol c f k) : folL c f k ++ [(k : Int)] = folL c f (k + 1) := filTo_t (φ := fun g => (g : Int)) h
theorem fol_f {c : Cat} {f : Int} {k : Nat} (h : ¬ okFol c f k) : folL c f k = folL c f (k + 1) := filTo_f h
theorem fol_len (c : Cat) (f : Int) (k : Nat) : (folL c f k).length ≤ k := filTo_len _ _ _
theorem fol_mem {c : Cat} {f x : Int} {k : Nat} (h : x ∈ folL c f k) : 0 ≤ x ∧ x < k ∧ at0 c.t f = at0 c.s x := by
  obtain ⟨j, hj, h1, rfl⟩ := filTo_mem.1 h
  exact ⟨by omega, by omega, h1.1⟩
def endT (c : Cat) (f : Int) : List UInt8 := cat (cat (dec (at0 c.s f)) [62]) (dec (at0 c.t f))
def compT (c : Cat) (f g : Int) : List UInt8 := cat (cat (dec g) [61]) (dec (c.th f g))
def itemsT (c : Cat) (f : Int) (l : List Int) : List UInt8 := l.flatMap fun g => cat [32] (compT c f g)
theorem itemsT_snoc (c : Cat) (f : Int) (l : List Int) (g : Int) : itemsT c f (l ++ [g]) = cat (itemsT c f l) (cat [32] (compT c f g)) := by simp [itemsT, cat]
noncomputable def lineT (c : Cat) (f : Int) : List UInt8 := cat (cat (endT c f) [58]) (itemsT c f (folL c f c.s.length))
noncomputable def fCategoryLine (c : Cat) (f : Int) : List UInt8 × Int := if arrErr c [f] = 0 then (lineT c f, 0) else ([], arrErr c [f])
theorem line_e {c : Cat} {f : Int} (h : ¬ arrErr c [f] = 0) : fCategoryLine c f = ([], arrErr c [f]) := if_neg h
theorem line_t {c : Cat} {f : Int} (h : arrErr c [f] = 0) : fCategoryLine c f = (lineT c f, 0) := if_pos h

set_option maxHeartbeats 1000000 in
set_option maxRecDepth 100000 in
theorem specDec_one (w : World) (x : Int) (h0 : 0 ≤ x) (h1 : x < 10) :
    Calls Tryd.prog 34 #[.int .i64 x] w (RetS w (dec x)) := by
  go_enter Tryd.func34, Tryd.ntmps34
  refine gc_enter (N := 20) rfl (look_cons (k := 0) rfl (look_nil _)) ?_
  refine gc_seq fun K1 hK1 => ?_
  refine gc_region ?_
  refine g_v (.free rfl) rfl rfl (qt_assign rfl rfl) ?_
  refine g_nil ?_
  refine gk_then (hK1 _ _ ?_)
  refine gc_seq fun K2 hK2 => ?_
  refine gc_seq fun K3 hK3 => ?_
  refine gc_region ?_
  refine g_v (.free rfl) rfl rfl (qt_move rfl rfl) ?_
  refine g_v (.free rfl) rfl rfl (qt_lss rfl rfl rfl) ?_
  refine g_nil ?_
  refine gk_then (hK3 _ _ ?_)
  refine gc_cond rfl (fun hc0 => ?_) (fun hc0 => ?_)
  · try simp only [decide_eq_true_eq, decide_eq_false_iff_not, Bool.not_eq_true', Bool.not_eq_false', Bool.not_eq_eq_eq_not, Bool.not_true, Bool.not_false, ne_eq, Decidable.not_not, Classical.not_not] at hc0
    refine gc_seq fun K4 hK4 => ?_
    refine gc_region ?_
    refine g_v (.free rfl) rfl rfl (qt_move rfl rfl) ?_
    refine g_v (.free rfl) rfl rfl (qt_add rfl rfl rfl (by omega)) ?_
    refine g_v (.free rfl) rfl rfl (qt_convB rfl rfl Tryd.underlying2 Tryd.underlying5 (by omega)) ?_
    refine g_op (.free rfl) fun K6 hK6 => ?_
    refine go_sliceY1 rfl rfl rfl rfl Tryd.underlying75 ?_
    intro B5
    refine hK6 _ _ ?_
    refine g_v (.free rfl) rfl rfl (qt_convY (n := 0) rfl rfl Tryd.underlying75 Tryd.underlying5 Tryd.underlying9 rfl) ?_
    refine g_v (.free rfl) rfl rfl (qt_assign rfl rfl) ?_
    refine g_nil ?_
    refine gk_then (hK4 _ _ ?_)
    refine gc_ret ?_
    refine gk_then_ret ?_
    refine ret_1 rfl rfl  (fun w M => ?_)
    rw [dec_1 h0 h1]; exact ⟨rfl, M.1⟩
  · try simp only [decide_eq_true_eq, decide_eq_false_iff_not, Bool.not_eq_true', Bool.not_eq_false', Bool.not_eq_eq_eq_not, Bool.not_true, Bool.not_false, ne_eq, Decidable.not_not, Classical.not_not] at hc0
    exfalso; omega

set_option maxHeartbeats 1000000 in
set_option maxRecDepth 100000 in
theorem specDec_two (w : World) (x : Int) (h0 : ¬ x < 10) (h1 : x < 100) :
    Calls Tryd.prog 34 #[.int .i64 x] w (RetS w (dec x)) := by
  go_enter Tryd.func34, Tryd.ntmps34
  refine gc_enter (N := 20) rfl (look_cons (k := 0) rfl (look_nil _)) ?_
  refine gc_seq fun K1 hK1 => ?_
  refine gc_region ?_
  refine g_v (.free rfl) rfl rfl (qt_assign rfl rfl) ?_
  refine g_nil ?_
  refine gk_then (hK1 _ _ ?_)
  refine gc_seq fun K2 hK2 => ?_
  refine gc_seq fun K3 hK3 => ?_
  refine gc_region ?_
  refine g_v (.free rfl) rfl rfl (qt_move rfl rfl) ?_
  refine g_v (.free rfl) rfl rfl (qt_lss rfl rfl rfl) ?_
  refine g_nil ?_
  refine gk_then (hK3 _ _ ?_)
  refine gc_cond rfl (fun hc0 => ?_) (fun hc0 => ?_)
  · try simp only [decide_eq_true_eq, decide_eq_false_iff_not, Bool.not_eq_true', Bool.not_eq_false', Bool.not_eq_eq_eq_not, Bool.not_true, Bool.not_false, ne_eq, Decidable.not_not, Classical.not_not] at hc0
    exfalso; omega
  · try simp only [decide_eq_true_eq, decide_eq_false_iff_not, Bool.not_eq_true', Bool.not_eq_false', Bool.not_eq_eq_eq_not, Bool.not_true, Bool.not_false, ne_eq, Decidable.not_not, Classical.not_not] at hc0
    refine gc_skip ?_
    refine gk_then (hK2 _ _ ?_)
    refine gc_seq fun K4 hK4 => ?_
    have d1 := dec_len (x := x / 10) (by omega) (by omega)
    try simp only [List.nil_append, List.cons_append, List.append_assoc, List.set_cons_succ, List.set_cons_zero]
    refine ga_start _ (fun w M => M) ?_
    refine ga_v 0 rfl (by kernel_rfl) (by kernel_rfl) (by kernel_rfl) (.free rfl) rfl rfl (qt_move rfl rfl) (fun _ _ _ h => h) ?_
    refine ga_v 1 rfl (by kernel_rfl) (by kernel_rfl) (by kernel_rfl) (.free rfl) rfl rfl (qt_quo rfl rfl rfl (by omega) (by omega) (by omega)) (fun _ _ _ h => h) ?_
    refine ga_v 3 rfl (by kernel_rfl) (by kernel_rfl) (by kernel_rfl) (.free rfl) rfl rfl (qt_move rfl rfl) (fun _ _ _ h => h) ?_
    refine ga_v 4 rfl (by kernel_rfl) (by kernel_rfl) (by kernel_rfl) (.free rfl) rfl rfl (qt_rem rfl rfl rfl (by omega) (by omega) (by omega)) (fun _ _ _ h => h) ?_
    refine ga_v 5 rfl (by kernel_rfl) (by kernel_rfl) (by kernel_rfl) (.free rfl) rfl rfl (qt_add rfl rfl rfl (by omega)) (fun _ _ _ h => h) ?_
    refine ga_v 6 rfl (by kernel_rfl) (by kernel_rfl) (by kernel_rfl) (.free rfl) rfl rfl (qt_convB rfl rfl Tryd.underlying2 Tryd.underlying5 (by omega)) (fun _ _ _ h => h) ?_
    refine ga_two 2 7 (by kernel_rfl) rfl rfl (.free rfl) (.free rfl) (fun K5 hK5 => ?_) (fun K5 hK5 => ?_)
    · refine go_q rfl rfl (qt_call rfl Tryd.func34 rfl (by decide) rfl (fun w M => specDec_one w _ (by first | assumption | omega) (by first | assumption | omega))) ?_
      refine hK5 _ _ (fun w M => (mem_take 0 M :)) ?_
      refine ga_op 7 (by kernel_rfl) rfl (.free rfl) fun K8 hK8 => ?_
      refine go_sliceY1 rfl rfl rfl rfl Tryd.underlying75 ?_
      intro B7
      refine hK8 _ _ (fun w M => (mem_take 0 M :)) ?_
      refine ga_op 8 (by kernel_rfl) rfl (.free rfl) fun K9 hK9 => ?_
      refine go_v rfl rfl (qt_convY (n := 0) rfl rfl Tryd.underlying75 Tryd.underlying5 Tryd.underlying9 rfl) ?_
      refine hK9 _ _ (fun w M => (mem_take 0 M :)) ?_
      refine ga_v 9 rfl (by kernel_rfl) (by kernel_rfl) (by kernel_rfl) (.free rfl) rfl rfl (qt_addS rfl rfl rfl (by simp only [cat_len, List.length_cons, List.length_nil]; omega)) (fun _ _ _ h => h) ?_
      refine ga_v 10 rfl (by kernel_rfl) (by kernel_rfl) (by kernel_rfl) (.free rfl) rfl rfl (qt_assign rfl rfl) (fun _ _ _ h => h) ?_
      refine ga_done (by kernel_rfl) ?_
      refine gk_then (hK4 _ _ ?_)
      refine gc_ret ?_
      refine ret_1 rfl rfl  (fun w M => ?_)
      rw [dec_2 h0]; exact ⟨rfl, M.1⟩
    · refine go_sliceY1 rfl rfl rfl rfl Tryd.underlying75 ?_
      intro B10
      refine hK5 _ _ (fun w M => (mem_take 0 M :)) ?_
      refine ga_two 2 8 (by kernel_rfl) rfl rfl (.free rfl) (.free rfl) (fun K12 hK12 => ?_) (fun K12 hK12 => ?_)
      · refine go_q rfl rfl (qt_call rfl Tryd.func34 rfl (by decide) rfl (fun w M => specDec_one w _ (by first | assumption | omega) (by first | assumption | omega))) ?_
        refine hK12 _ _ (fun w M => (mem_take 0 M :)) ?_
        refine ga_op 8 (by kernel_rfl) rfl (.free rfl) fun K14 hK14 => ?_
        refine go_v rfl rfl (qt_convY (n := 0) rfl rfl Tryd.underlying75 Tryd.underlying5 Tryd.underlying9 rfl) ?_
        refine hK14 _ _ (fun w M => (mem_take 0 M :)) ?_
        refine ga_v 9 rfl (by kernel_rfl) (by kernel_rfl) (by kernel_rfl) (.free rfl) rfl rfl (qt_addS rfl rfl rfl (by simp only [cat_len, List.length_cons, List.length_nil]; omega)) (fun _ _ _ h => h) ?_
        refine ga_v 10 rfl (by kernel_rfl) (by kernel_rfl) (by kernel_rfl) (.free rfl) rfl rfl (qt_assign rfl rfl) (fun _ _ _ h => h) ?_
        refine ga_done (by kernel_rfl) ?_
        refine gk_then (hK4 _ _ ?_)
        refine gc_ret ?_
        refine ret_1 rfl rfl  (fun w M => ?_)
        rw [dec_2 h0]; exact ⟨rfl, M.1⟩
      · refine go_v rfl rfl (qt_convY (n := 0) rfl rfl Tryd.underlying75 Tryd.underlying5 Tryd.underlying9 rfl) ?_
        refine hK12 _ _ (fun w M => (mem_take 0 M :)) ?_
        refine ga_op 2 (by kernel_rfl) rfl (.free rfl) fun K16 hK16 => ?_
        refine go_q rfl rfl (qt_call rfl Tryd.func34 rfl (by decide) rfl (fun w M => specDec_one w _ (by first | assumption | omega) (by first | assumption | omega))) ?_
        refine hK16 _ _ (fun w M => (mem_take 0 M :)) ?_
        refine ga_v 9 rfl (by kernel_rfl) (by kernel_rfl) (by kernel_rfl) (.free rfl) rfl rfl (qt_addS rfl rfl rfl (by simp only [cat_len, List.length_cons, List.length_nil]; omega)) (fun _ _ _ h => h) ?_
        refine ga_v 10 rfl (by kernel_rfl) (by kernel_rfl) (by kernel_rfl) (.free rfl) rfl rfl (qt_assign rfl rfl) (fun _ _ _ h => h) ?_
        refine ga_done (by kernel_rfl) ?_
        refine gk_then (hK4 _ _ ?_)
        refine gc_ret ?_
        refine ret_1 rfl rfl  (fun w M => ?_)
        rw [dec_2 h0]; exact ⟨rfl, M.1⟩


theorem specDec_any (w : World) (x : Int) (h0 : 0 ≤ x) (h1 : x < 100) : Calls Tryd.prog 34 #[.int .i64 x] w (RetS w (dec x)) := by
  by_cases h : x < 10
  · exact specDec_one w x h0 h
  · exact specDec_two w x h h1

set_option maxHeartbeats 1000000 in
set_option maxRecDepth 100000 in
theorem numberText_any (w : World) (x : Int) (h0 : 0 ≤ x) (h1 : x < 100) :
    Calls Tryd.prog 47 #[.int .i64 x] w (RetS w (dec x)) := by
  go_enter Tryd.func47, Tryd.ntmps47
  refine gc_enter (N := 5) rfl (look_cons (k := 0) rfl (look_nil _)) ?_
  refine gc_seq fun K1 hK1 => ?_
  refine gc_region ?_
  refine g_v (.free rfl) rfl rfl (qt_assign rfl rfl) ?_
  refine g_nil ?_
  refine gk_then (hK1 _ _ ?_)
  refine gc_seq fun K2 hK2 => ?_
  refine gc_region ?_
  refine g_v (.free rfl) rfl rfl (qt_move rfl rfl) ?_
  refine g_q (.free rfl) rfl rfl (qt_call rfl Tryd.func61 rfl (by decide) rfl (fun w M => formatInt_any w _ (by first | assumption | omega) (by first | assumption | omega))) ?_
  refine g_v (.free rfl) rfl rfl (qt_assign rfl rfl) ?_
  refine g_nil ?_
  refine gk_then (hK2 _ _ ?_)
  refine gc_ret ?_
  refine ret_1 rfl rfl  (fun w M => ?_)
  exact ⟨rfl, M.1⟩

set_option maxHeartbeats 1000000 in
set_option maxRecDepth 100000 in
theorem arrowText_any (w : World) (v : Value) (c : Cat) (f : Int) (h : RdC w v c) (hS : ShapeP c) (f0 : 0 ≤ f) (f1 : f < c.s.length) :
    Calls Tryd.prog 37 #[v, .int .i64 f] w (RetS w (endT c f)) := by
  have h0 := h
  obtain ⟨va, vb, vc, vd, ve, vf, vg, vh, rfl, h1, h2, h3, h4, _⟩ := h.lists
  have hn40 := hS.n40; have htl := hS.tl; have hel := hS.el; have hob0 := hS.ob0; have hob8 := hS.ob8; have hml := hS.ml
  have hA := arrP hS f0 f1
  have a1 := hA.fs; have a2 := hA.ft; have a3 := hA.s0; have a4 := hA.s1; have a5 := hA.t0; have a6 := hA.t1; have a7 := hA.row; have a8 := hA.fm
  have d1 := dec_len (x := at0 c.s f) (by omega) (by omega)
  have d2 := dec_len (x := at0 c.t f) (by omega) (by omega)
  go_enter Tryd.func37, Tryd.ntmps37
  refine gc_enter (N := 19) rfl (look_cons (k := 0) rfl (look_cons (k := 1) rfl (look_nil _))) ?_
  refine gc_seq fun K1 hK1 => ?_
  refine gc_region ?_
  refine g_op (.free rfl) fun K3 hK3 => ?_
  refine go_box rfl rfl rfl rfl rfl ?_
  intro B2
  refine hK3 _ _ ?_
  refine g_v (.free rfl) rfl rfl (qt_assign rfl rfl) ?_
  refine g_nil ?_
  refine gk_then (hK1 _ _ ?_)
  refine gc_seq fun K4 hK4 => ?_
  refine gc_draw (by kernel_rfl) ?_
  refine gd_v (.free rfl) rfl rfl (qt_field (z := 0) (off := 1) rfl rfl Tryd.underlying29 rfl (by kernel_rfl) rfl) ?_
  refine gd_v (.free rfl) rfl rfl (qt_loadB (n := 0) rfl rfl Tryd.underlying22 rfl rfl rfl) ?_
  refine gd_v (.free rfl) rfl rfl (qt_move rfl rfl) ?_
  refine gd_v (.free rfl) rfl rfl (qt_index rfl rfl rfl ulE1 szE1 (fun w M => lenA_rd h1) (by omega) (by omega)) ?_
  refine gd_v (.free rfl) rfl rfl (qt_load1 rfl rfl Tryd.underlying2 rfl (fun w M => mem_rd M h1) (by omega) (by omega)) ?_
  refine gd_q (.free rfl) rfl rfl (qt_call rfl Tryd.func47 rfl (by decide) rfl (fun w M => numberText_any w _ (by first | assumption | omega) (by first | assumption | omega))) ?_
  refine gd_v (.free rfl) rfl rfl (qt_addS rfl rfl rfl (by simp only [cat_len, List.length_cons, List.length_nil]; omega)) ?_
  refine gd_v (.free rfl) rfl rfl (qt_field (z := 0) (off := 2) rfl rfl Tryd.underlying29 rfl (by kernel_rfl) rfl) ?_
  refine gd_v (.free rfl) rfl rfl (qt_loadB (n := 0) rfl rfl Tryd.underlying22 rfl rfl rfl) ?_
  refine gd_v (.free rfl) rfl rfl (qt_move rfl rfl) ?_
  refine gd_v (.free rfl) rfl rfl (qt_index rfl rfl rfl ulE1 szE1 (fun w M => lenA_rd h2) (by omega) (by omega)) ?_
  refine gd_v (.free rfl) rfl rfl (qt_load1 rfl rfl Tryd.underlying2 rfl (fun w M => mem_rd M h2) (by omega) (by omega)) ?_
  refine gd_q (.free rfl) rfl rfl (qt_call rfl Tryd.func47 rfl (by decide) rfl (fun w M => numberText_any w _ (by first | assumption | omega) (by first | assumption | omega))) ?_
  refine gd_v (.free rfl) rfl rfl (qt_addS rfl rfl rfl (by simp only [cat_len, List.length_cons, List.length_nil]; omega)) ?_
  refine gd_v (.free rfl) rfl rfl (qt_assign rfl rfl) ?_
  refine gd_nil ?_
  refine gk_then (hK4 _ _ ?_)
  refine gc_ret ?_
  refine ret_1 rfl rfl  (fun w M => ?_)
  exact ⟨rfl, M.1⟩

set_option maxHeartbeats 1000000 in
set_option maxRecDepth 100000 in
theorem compText_any (w : World) (v : Value) (c : Cat) (f g : Int) (h : RdC w v c) (hS : ShapeP c) (f0 : 0 ≤ f) (f1 : f < c.s.length) (g0 : 0 ≤ g) (g1 : g < c.s.length) (hfg : at0 c.t f = at0 c.s g) :
    Calls Tryd.prog 39 #[v, .int .i64 f, .int .i64 g] w (RetS w (compT c f g)) := by
  have h0 := h
  obtain ⟨va, vb, vc, vd, ve, vf, vg, vh, rfl, h1, h2, h3, h4, _⟩ := h.lists
  have hn40 := hS.n40; have htl := hS.tl; have hel := hS.el; have hob0 := hS.ob0; have hob8 := hS.ob8; have hml := hS.ml
  have hA := arrP hS f0 f1
  have a1 := hA.fs; have a2 := hA.ft; have a3 := hA.s0; have a4 := hA.s1; have a5 := hA.t0; have a6 := hA.t1; have a7 := hA.row; have a8 := hA.fm
  have d1 := dec_len (x := at0 c.s f) (by omega) (by omega)
  have d2 := dec_len (x := at0 c.t f) (by omega) (by omega)
  have hT := th_ends hS f0 f1 g0 g1 hfg
  have t0 := hT.1.1; have t1 := hT.1.2
  have d3 := dec_len (x := g) (by omega) (by omega)
  have d4 := dec_len (x := c.th f g) (by omega) (by omega)
  go_enter Tryd.func39, Tryd.ntmps39
  refine gc_enter (N := 16) rfl (look_cons (k := 0) rfl (look_cons (k := 1) rfl (look_cons (k := 2) rfl (look_nil _)))) ?_
  refine gc_seq fun K1 hK1 => ?_
  refine gc_region ?_
  refine g_op (.free rfl) fun K3 hK3 => ?_
  refine go_box rfl rfl rfl rfl rfl ?_
  intro B2
  refine hK3 _ _ ?_
  refine g_v (.free rfl) rfl rfl (qt_assign rfl rfl) ?_
  refine g_nil ?_
  refine gk_then (hK1 _ _ ?_)
  refine gc_seq fun K4 hK4 => ?_
  refine gc_draw (by kernel_rfl) ?_
  refine gd_v (.free rfl) rfl rfl (qt_move rfl rfl) ?_
  refine gd_q (.free rfl) rfl rfl (qt_call rfl Tryd.func47 rfl (by decide) rfl (fun w M => numberText_any w _ (by first | assumption | omega) (by first | assumption | omega))) ?_
  refine gd_v (.free rfl) rfl rfl (qt_addS rfl rfl rfl (by simp only [cat_len, List.length_cons, List.length_nil]; omega)) ?_
  refine gd_v (.free rfl) rfl rfl (qt_loadS (n := 0) rfl rfl Tryd.underlying29 rfl (by kernel_rfl) rfl) ?_
  refine gd_v (.free rfl) rfl rfl (qt_move rfl rfl) ?_
  refine gd_v (.free rfl) rfl rfl (qt_move rfl rfl) ?_
  refine gd_q (.free rfl) rfl rfl (qt_call rfl Tryd.func55 rfl (by decide) rfl (fun w M => then_any w _ _ _ _ (mem_rdC M h0) (by first | assumption | omega) (by first | assumption | omega) (by first | assumption | omega) (by first | assumption | omega))) ?_
  refine gd_q (.free rfl) rfl rfl (qt_call rfl Tryd.func47 rfl (by decide) rfl (fun w M => numberText_any w _ (by first | assumption | omega) (by first | assumption | omega))) ?_
  refine gd_v (.free rfl) rfl rfl (qt_addS rfl rfl rfl (by simp only [cat_len, List.length_cons, List.length_nil]; omega)) ?_
  refine gd_v (.free rfl) rfl rfl (qt_assign rfl rfl) ?_
  refine gd_nil ?_
  refine gk_then (hK4 _ _ ?_)
  refine gc_ret ?_
  refine ret_1 rfl rfl  (fun w M => ?_)
  exact ⟨rfl, M.1⟩

set_option maxHeartbeats 1000000 in
set_option maxRecDepth 100000 in
theorem followers_any (w : World) (v : Value) (c : Cat) (f : Int) (h : RdC w v c) (hS : ShapeP c) (f0 : 0 ≤ f) (f1 : f < c.s.length) :
    Calls Tryd.prog 38 #[v, .int .i64 f] w (RetL w (folL c f c.s.length)) := by
  have h0 := h
  obtain ⟨va, vb, vc, vd, ve, vf, vg, vh, rfl, h1, h2, h3, h4, _⟩ := h.lists
  have hn40 := hS.n40; have htl := hS.tl; have hel := hS.el; have hob0 := hS.ob0; have hob8 := hS.ob8; have hml := hS.ml
  have hA := arrP hS f0 f1
  have a1 := hA.fs; have a2 := hA.ft; have a3 := hA.s0; have a4 := hA.s1; have a5 := hA.t0; have a6 := hA.t1; have a7 := hA.row; have a8 := hA.fm
  have d1 := dec_len (x := at0 c.s f) (by omega) (by omega)
  have d2 := dec_len (x := at0 c.t f) (by omega) (by omega)
  go_enter Tryd.func38, Tryd.ntmps38
  refine gc_enter (N := 35) rfl (look_cons (k := 0) rfl (look_cons (k := 1) rfl (look_nil _))) ?_
  refine gc_seq fun K1 hK1 => ?_
  refine gc_region ?_
  refine g_op (.free rfl) fun K3 hK3 => ?_
  refine go_box rfl rfl rfl rfl rfl ?_
  intro B2
  refine hK3 _ _ ?_
  refine g_v (.free rfl) rfl rfl (qt_assign rfl rfl) ?_
  refine g_nil ?_
  refine gk_then (hK1 _ _ ?_)
  refine gc_seq fun K4 hK4 => ?_
  refine gc_region ?_
  refine g_v (.free rfl) rfl rfl (qt_assign rfl rfl) ?_
  refine g_nil ?_
  refine gk_then (hK4 _ _ ?_)
  refine gc_seq fun K5 hK5 => ?_
  refine gc_seq fun K6 hK6 => ?_
  refine gc_region ?_
  refine g_v (.free rfl) rfl rfl (qt_loadS (n := 0) rfl rfl Tryd.underlying29 rfl (by kernel_rfl) rfl) ?_
  refine g_q (.free rfl) rfl rfl (qt_call rfl Tryd.func45 rfl (by decide) rfl (fun w M => arrows_any w _ _ (mem_rdC M h0))) ?_
  refine g_v (.free rfl) rfl rfl (qt_move rfl rfl) ?_
  refine g_nil ?_
  refine gk_then (hK6 _ _ ?_)
  refine gc_block ?_
  refine gc_nilS ?_
  try simp only [List.nil_append, List.cons_append, List.append_assoc, List.set_cons_succ, List.set_cons_zero]
  refine gc_loop ([(0, _), (1, _), (2, _), (4, _), (8, _)] : Env) (fun s : Nat × (Option Addr) × Nat => (fun (k : Nat) (a : Option Addr) (q : Nat) => ([(5, .slice a (folL c f k).length q), (9, .int .i64 (k : Int))] : Env)) s.1 s.2.1 s.2.2) (fun s : Nat × (Option Addr) × Nat => (fun (k : Nat) (a : Option Addr) (q : Nat) => ([(1, own1I (.slice a (folL c f k).length q) (folL c f k))] : List (Nat × Itm))) s.1 s.2.1 s.2.2) (fun s : Nat × (Option Addr) × Nat => (fun (k : Nat) (a : Option Addr) (q : Nat) => k ≤ c.s.length) s.1 s.2.1 s.2.2) (fun s : Nat × (Option Addr) × Nat => (fun (k : Nat) (a : Option Addr) (q : Nat) => c.s.length - k) s.1 s.2.1 s.2.2) (0, _, _) (sub_cons rfl (sub_cons rfl (sub_cons rfl (sub_cons rfl (sub_cons rfl (sub_cons rfl (sub_cons rfl sub_nil))))))) rfl (Nat.zero_le _) ?_
  rintro ⟨k, a, q⟩ hinv KL7 hKL7
  simp only [updL, List.foldl_cons, List.foldl_nil, List.set_cons_succ, List.set_cons_zero, List.cons_append, List.nil_append] at hinv hKL7 ⊢
  have hk := hinv
  have hl := fol_len c f k
  refine gc_seq fun K8 hK8 => ?_
  refine gc_region ?_
  refine g_v (.free rfl) rfl rfl (qt_lss rfl rfl rfl) ?_
  refine g_nil ?_
  refine gk_then (hK8 _ _ ?_)
  refine gc_seq fun K9 hK9 => ?_
  refine gc_cond rfl (fun hc0 => ?_) (fun hc0 => ?_)
  · try simp only [decide_eq_true_eq, decide_eq_false_iff_not, Bool.not_eq_true', Bool.not_eq_false', Bool.not_eq_eq_eq_not, Bool.not_true, Bool.not_false, ne_eq, Decidable.not_not, Classical.not_not] at hc0
    refine gc_skip ?_
    refine gk_then (hK9 _ _ ?_)
    refine gc_seq fun K10 hK10 => ?_
    refine gc_block ?_
    refine gc_seq fun K11 hK11 => ?_
    refine gc_region ?_
    refine g_v (.free rfl) rfl rfl (qt_move rfl rfl) ?_
    refine g_v (.free rfl) rfl rfl (qt_assign rfl rfl) ?_
    refine g_nil ?_
    refine gk_then (hK11 _ _ ?_)
    refine gc_seq fun K12 hK12 => ?_
    have hB := arrP hS (f := (k : Int)) (by omega) (by omega)
    have b1 := hB.fs; have b2 := hB.ft
    refine gc_draw (by kernel_rfl) ?_
    refine gd_v (.free rfl) rfl rfl (qt_field (z := 0) (off := 2) rfl rfl Tryd.underlying29 rfl (by kernel_rfl) rfl) ?_
    refine gd_v (.free rfl) rfl rfl (qt_loadB (n := 0) rfl rfl Tryd.underlying22 rfl rfl rfl) ?_
    refine gd_v (.free rfl) rfl rfl (qt_move rfl rfl) ?_
    refine gd_v (.free rfl) rfl rfl (qt_index rfl rfl rfl ulE1 szE1 (fun w M => lenA_rd h2) (by omega) (by omega)) ?_
    refine gd_v (.free rfl) rfl rfl (qt_load1 rfl rfl Tryd.underlying2 rfl (fun w M => mem_rd M h2) (by omega) (by omega)) ?_
    refine gd_v (.free rfl) rfl rfl (qt_field (z := 0) (off := 1) rfl rfl Tryd.underlying29 rfl (by kernel_rfl) rfl) ?_
    refine gd_v (.free rfl) rfl rfl (qt_loadB (n := 0) rfl rfl Tryd.underlying22 rfl rfl rfl) ?_
    refine gd_v (.free rfl) rfl rfl (qt_move rfl rfl) ?_
    refine gd_v (.free rfl) rfl rfl (qt_index rfl rfl rfl ulE1 szE1 (fun w M => lenA_rd h1) (by omega) (by omega)) ?_
    refine gd_v (.free rfl) rfl rfl (qt_load1 rfl rfl Tryd.underlying2 rfl (fun w M => mem_rd M h1) (by omega) (by omega)) ?_
    refine gd_v (.free rfl) rfl rfl (qt_eql rfl rfl rfl) ?_
    refine gd_splitv (.free rfl) rfl rfl (qt_move rfl rfl) (fun hs5_11 => ?_) (fun hs5_11 => ?_)
    · try simp only [decide_eq_true_eq, decide_eq_false_iff_not, Bool.not_eq_true', Bool.not_eq_false', Bool.not_eq_eq_eq_not, Bool.not_true, Bool.not_false, ne_eq, Decidable.not_not, Classical.not_not] at hs5_11
      refine gd_v (.held _ _ _ rfl rfl rfl) rfl rfl (qt_loadS (n := 0) rfl rfl Tryd.underlying29 rfl (by kernel_rfl) rfl) ?_
      refine gd_v (.held _ _ _ rfl rfl rfl) rfl rfl (qt_move rfl rfl) ?_
      refine gd_q (.held _ _ _ rfl rfl rfl) rfl rfl (qt_call rfl Tryd.func46 rfl (by decide) rfl (fun w M => isIdentity_any w _ _ _ (mem_rdC M h0) (by first | assumption | omega) (by first | assumption | omega) (by first | assumption | omega))) ?_
      refine gd_v (.held _ _ _ rfl rfl rfl) rfl rfl (qt_not rfl rfl) ?_
      refine gd_v (.free rfl) rfl rfl (qt_pick_t rfl rfl rfl) ?_
      refine gd_nil ?_
      refine gk_then (hK12 _ _ ?_)
      refine gc_cond rfl (fun hc1 => ?_) (fun hc1 => ?_)
      · try simp only [decide_eq_true_eq, decide_eq_false_iff_not, Bool.not_eq_true', Bool.not_eq_false', Bool.not_eq_eq_eq_not, Bool.not_true, Bool.not_false, ne_eq, Decidable.not_not, Classical.not_not] at hc1
        refine gc_region ?_
        refine g_v (.free rfl) rfl rfl (qt_move rfl rfl) ?_
        refine g_v (.free rfl) rfl rfl (qt_move rfl rfl) ?_
        refine g_op (.free rfl) fun K14 hK14 => ?_
        refine go_slice1 rfl rfl rfl rfl Tryd.underlying22 ?_
        intro B13
        refine hK14 _ _ ?_
        refine g_op (.free rfl) fun K16 hK16 => ?_
        refine go_append (n := 1) (m := 2) rfl rfl rfl Tryd.underlying22 rfl rfl rfl rfl (by omega) ?_
        intro va15 vc15
        refine hK16 _ _ ?_
        refine g_v (.free rfl) rfl rfl (qt_assign rfl rfl) ?_
        refine g_nil ?_
        refine gk_block ?_
        refine gk_then (hK10 _ _ ?_)
        refine gc_region ?_
        refine g_v (.free rfl) rfl rfl (qt_add rfl rfl rfl (by omega)) ?_
        refine g_v (.free rfl) rfl rfl (qt_move rfl rfl) ?_
        refine g_nil ?_
        have hb : okFol c f k := ⟨hs5_11, hc1⟩
        simp only [fol_t hb]
        refine gk_then (gk_take 2 ?_)
        refine gk_sub ?hs_17 (hKL7 (k + 1, _, _) ?hi_17 ?hm_17)
        case hs_17 => exact (sub_cons rfl (sub_cons rfl (sub_cons rfl (sub_cons rfl (sub_cons rfl (sub_cons rfl (sub_cons rfl sub_nil)))))))
        case hi_17 => omega
        case hm_17 => omega
      · try simp only [decide_eq_true_eq, decide_eq_false_iff_not, Bool.not_eq_true', Bool.not_eq_false', Bool.not_eq_eq_eq_not, Bool.not_true, Bool.not_false, ne_eq, Decidable.not_not, Classical.not_not] at hc1
        refine gc_skip ?_
        refine gk_block ?_
        refine gk_then (hK10 _ _ ?_)
        refine gc_region ?_
        refine g_v (.free rfl) rfl rfl (qt_add rfl rfl rfl (by omega)) ?_
        refine g_v (.free rfl) rfl rfl (qt_move rfl rfl) ?_
        refine g_nil ?_
        have hb : ¬ okFol c f k := fun h => h.2 hc1
        rw [fol_f hb]
        refine gk_then (gk_take 2 ?_)
        refine gk_sub ?hs_18 (hKL7 (k + 1, _, _) ?hi_18 ?hm_18)
        case hs_18 => exact (sub_cons rfl (sub_cons rfl (sub_cons rfl (sub_cons rfl (sub_cons rfl (sub_cons rfl (sub_cons rfl sub_nil)))))))
        case hi_18 => omega
        case hm_18 => omega
    · try simp only [decide_eq_true_eq, decide_eq_false_iff_not, Bool.not_eq_true', Bool.not_eq_false', Bool.not_eq_eq_eq_not, Bool.not_true, Bool.not_false, ne_eq, Decidable.not_not, Classical.not_not] at hs5_11
      refine gd_skip (.not _ _ _ _ rfl rfl rfl rfl) rfl rfl ?_
      refine gd_skip (.not _ _ _ _ rfl rfl rfl rfl) rfl rfl ?_
      refine gd_skip (.not _ _ _ _ rfl rfl rfl rfl) rfl rfl ?_
      refine gd_skip (.not _ _ _ _ rfl rfl rfl rfl) rfl rfl ?_
      refine gd_v (.free rfl) rfl rfl (qt_pick_f rfl rfl rfl) ?_
      refine gd_nil ?_
      refine gk_then (hK12 _ _ ?_)
      refine gc_cond_f rfl ?_
      refine gc_skip ?_
      refine gk_block ?_
      refine gk_then (hK10 _ _ ?_)
      refine gc_region ?_
      refine g_v (.free rfl) rfl rfl (qt_add rfl rfl rfl (by omega)) ?_
      refine g_v (.free rfl) rfl rfl (qt_move rfl rfl) ?_
      refine g_nil ?_
      have hb : ¬ okFol c f k := fun h => hs5_11 h.1
      rw [fol_f hb]
      refine gk_then (gk_take 2 ?_)
      refine gk_sub ?hs_19 (hKL7 (k + 1, _, _) ?hi_19 ?hm_19)
      case hs_19 => exact (sub_cons rfl (sub_cons rfl (sub_cons rfl (sub_cons rfl (sub_cons rfl (sub_cons rfl (sub_cons rfl sub_nil)))))))
      case hi_19 => omega
      case hm_19 => omega
  · try simp only [decide_eq_true_eq, decide_eq_false_iff_not, Bool.not_eq_true', Bool.not_eq_false', Bool.not_eq_eq_eq_not, Bool.not_true, Bool.not_false, ne_eq, Decidable.not_not, Classical.not_not] at hc0
    refine gc_exit ?_
    refine gk_then_exit ?_
    refine gk_then_exit ?_
    refine gk_block_hit ?_
    refine gk_then (hK5 _ _ ?_)
    refine gc_seq fun K20 hK20 => ?_
    refine gc_region ?_
    refine g_v (.free rfl) rfl rfl (qt_move rfl rfl) ?_
    refine g_v (.free rfl) rfl rfl (qt_assign rfl rfl) ?_
    refine g_nil ?_
    refine gk_then (hK20 _ _ ?_)
    refine gc_ret ?_
    refine ret_1 rfl rfl  (fun w M => ?_)
    obtain rfl : k = c.s.length := by omega
    exact ⟨_, rfl, mem_own1 (n := 1) M rfl, M.1⟩


theorem at0_mem1 {xs : List Int} {i : Nat} (h : i < xs.length) : at0 xs (i : Int) ∈ xs := by
  rw [at0_nat, List.getD_eq_getElem?_getD, List.getElem?_eq_getElem h]; exact List.getElem_mem h
theorem at0_getD (L : List Int) (j : Nat) (h : j < L.length) : at0 L (j : Int) = L[j] := by rw [at0_nat, List.getD_eq_getElem?_getD, List.getElem?_eq_getElem h]; rfl
theorem compT_len {c : Cat} {f g : Int} (hS : ShapeP c) (f0 : 0 ≤ f) (f1 : f < c.s.length) (g0 : 0 ≤ g) (g1 : g < c.s.length) (hfg : at0 c.t f = at0 c.s g) : (compT c f g).length ≤ 5 := by
  have hn := hS.n40
  have hT := th_ends hS f0 f1 g0 g1 hfg
  have t0 := hT.1.1; have t1 := hT.1.2
  have d3 := dec_len (x := g) (by omega) (by omega)
  have d4 := dec_len (x := c.th f g) (by omega) (by omega)
  simp only [compT, cat_len, List.length_cons, List.length_nil]; omega
theorem endT_len {c : Cat} {f : Int} (hS : ShapeP c) (f0 : 0 ≤ f) (f1 : f < c.s.length) : (endT c f).length ≤ 5 := by
  have hA := arrP hS f0 f1
  have hob8 := hS.ob8; have hel := hS.el
  have a3 := hA.s0; have a4 := hA.s1; have a5 := hA.t0; have a6 := hA.t1
  have d3 := dec_len (x := at0 c.s f) (by omega) (by omega)
  have d4 := dec_len (x := at0 c.t f) (by omega) (by omega)
  simp only [endT, cat_len, List.length_cons, List.length_nil]; omega
def lineTo (c : Cat) (f : Int) (L : List Int) : Nat → List UInt8
  | 0 => cat (endT c f) [58]
  | j + 1 => cat (lineTo c f L j) (cat [32] (compT c f (at0 L (j : Int))))
theorem lineTo_eq (c : Cat) (f : Int) (L : List Int) : ∀ j, j ≤ L.length → lineTo c f L j = cat (cat (endT c f) [58]) (itemsT c f (L.take j))
  | 0, _ => by simp [lineTo, itemsT, cat]
  | j + 1, h => by
    rw [lineTo, lineTo_eq c f L j (by omega), List.take_add_one, List.getElem?_eq_getElem (by omega), Option.toList_some, itemsT_snoc, at0_getD L j (by omega), cat_assoc (cat (endT c f) [58])]
theorem lineTo_all (c : Cat) (f : Int) : lineTo c f (folL c f c.s.length) (folL c f c.s.length).length = lineT c f := by
  rw [lineTo_eq c f _ _ (Nat.le_refl _), List.take_length]; rfl
noncomputable def lineS (c : Cat) (f : Int) : Nat → List UInt8
  | 0 => cat (endT c f) [58]
  | k + 1 => if bP (okFol c f k) = true then cat (lineS c f k) (cat [32] (compT c f (k : Int))) else lineS c f k
theorem lineS_t {c : Cat} {f : Int} {k : Nat} (h : okFol c f k) : cat (cat (cat (cat (lineS c f k) [32]) (dec (k : Int))) [61]) (dec (at0 (row2 c.m f) (k : Int))) = lineS c f (k + 1) := by
  rw [lineS, if_pos (bP_t h)]; simp [compT, Cat.th, cat]
theorem lineS_f {c : Cat} {f : Int} {k : Nat} (h : ¬ okFol c f k) : lineS c f k = lineS c f (k + 1) := by
  rw [lineS, if_neg (by rw [bP_f h]; decide)]
theorem lineS_eq (c : Cat) (f : Int) : ∀ k, lineS c f k = cat (cat (endT c f) [58]) (itemsT c f (folL c f k))
  | 0 => by simp [lineS, itemsT, folL, filTo, cat]
  | k + 1 => by
    by_cases h : okFol c f k
    · rw [← fol_t h, itemsT_snoc, lineS, if_pos (bP_t h), lineS_eq c f k, cat_assoc (cat (endT c f) [58])]
    · rw [← fol_f h, ← lineS_f h, lineS_eq c f k]

set_option maxHeartbeats 1000000 in
set_option maxRecDepth 100000 in
theorem specArrow_any (w : World) (v : Value) (c : Cat) (f : Int) (h : RdC w v c) :
    Calls Tryd.prog 33 #[v, .int .i64 f] w (RetB w (decide (0 ≤ f ∧ f < c.s.length))) := by
  have h0 := h
  obtain ⟨va, vb, vc, vd, ve, vf, vg, vh, rfl, h1, h2, h3, h4, _⟩ := h.lists
  go_enter Tryd.func33, Tryd.ntmps33
  refine gc_enter (N := 14) rfl (look_cons (k := 0) rfl (look_cons (k := 1) rfl (look_nil _))) ?_
  refine gc_seq fun K1 hK1 => ?_
  refine gc_region ?_
  refine g_op (.free rfl) fun K3 hK3 => ?_
  refine go_box rfl rfl rfl rfl rfl ?_
  intro B2
  refine hK3 _ _ ?_
  refine g_v (.free rfl) rfl rfl (qt_assign rfl rfl) ?_
  refine g_nil ?_
  refine gk_then (hK1 _ _ ?_)
  refine gc_seq fun K4 hK4 => ?_
  refine gc_region ?_
  refine g_v (.free rfl) rfl rfl (qt_move rfl rfl) ?_
  refine g_v (.free rfl) rfl rfl (qt_geq rfl rfl rfl) ?_
  refine g_splitv (.free rfl) rfl rfl (qt_move rfl rfl) (fun hs1_2 => ?_) (fun hs1_2 => ?_)
  · try simp only [decide_eq_true_eq, decide_eq_false_iff_not, Bool.not_eq_true', Bool.not_eq_false', Bool.not_eq_eq_eq_not, Bool.not_true, Bool.not_false, ne_eq, Decidable.not_not, Classical.not_not] at hs1_2
    refine g_v (.held _ _ _ rfl rfl rfl) rfl rfl (qt_move rfl rfl) ?_
    refine g_v (.held _ _ _ rfl rfl rfl) rfl rfl (qt_field (z := 0) (off := 1) rfl rfl Tryd.underlying29 rfl (by kernel_rfl) rfl) ?_
    refine g_v (.held _ _ _ rfl rfl rfl) rfl rfl (qt_loadB (n := 0) rfl rfl Tryd.underlying22 rfl rfl rfl) ?_
    refine g_v (.held _ _ _ rfl rfl rfl) rfl rfl (qt_len rfl rfl ulE1 (fun w M => lenV_rd h1)) ?_
    refine g_v (.held _ _ _ rfl rfl rfl) rfl rfl (qt_lss rfl rfl rfl) ?_
    refine g_v (.free rfl) rfl rfl (qt_pick_t rfl rfl rfl) ?_
    refine g_v (.free rfl) rfl rfl (qt_assign rfl rfl) ?_
    refine g_nil ?_
    refine gk_then (hK4 _ _ ?_)
    refine gc_ret ?_
    refine ret_1 rfl rfl  (fun w M => ?_)
    refine ⟨?_, M.1⟩; congr 2; exact decide_eq_decide.2 ⟨fun h => ⟨hs1_2, h⟩, fun h => h.2⟩
  · try simp only [decide_eq_true_eq, decide_eq_false_iff_not, Bool.not_eq_true', Bool.not_eq_false', Bool.not_eq_eq_eq_not, Bool.not_true, Bool.not_false, ne_eq, Decidable.not_not, Classical.not_not] at hs1_2
    refine g_skip (.not _ _ _ _ rfl rfl rfl rfl) rfl rfl ?_
    refine g_skip (.not _ _ _ _ rfl rfl rfl rfl) rfl rfl ?_
    refine g_skip (.not _ _ _ _ rfl rfl rfl rfl) rfl rfl ?_
    refine g_skip (.not _ _ _ _ rfl rfl rfl rfl) rfl rfl ?_
    refine g_skip (.not _ _ _ _ rfl rfl rfl rfl) rfl rfl ?_
    refine g_v (.free rfl) rfl rfl (qt_pick_f rfl rfl rfl) ?_
    refine g_v (.free rfl) rfl rfl (qt_assign rfl rfl) ?_
    refine g_nil ?_
    refine gk_then (hK4 _ _ ?_)
    refine gc_ret ?_
    refine ret_1 rfl rfl  (fun w M => ?_)
    rw [decide_eq_false fun h => hs1_2 h.1]; exact ⟨rfl, M.1⟩

set_option maxHeartbeats 1000000 in
set_option maxRecDepth 100000 in
theorem impl_CategoryLine (w : World) (v : Value) (c : Cat) (f : Int) (h : RdC w v c) :
    Calls Tryd.prog 17 #[v, .int .i64 f] w (RetSI w (fCategoryLine c f).1 (fCategoryLine c f).2) := by
  have h0 := h
  obtain ⟨va, vb, vc, vd, ve, vf, vg, vh, rfl, h1, h2, h3, h4, _⟩ := h.lists
  go_enter Tryd.func17, Tryd.ntmps17
  refine gc_enter (N := 42) rfl (look_cons (k := 0) rfl (look_cons (k := 1) rfl (look_nil _))) ?_
  refine gc_seq fun K1 hK1 => ?_
  refine gc_region ?_
  refine g_op (.free rfl) fun K3 hK3 => ?_
  refine go_box rfl rfl rfl rfl rfl ?_
  intro B2
  refine hK3 _ _ ?_
  refine g_v (.free rfl) rfl rfl (qt_assign rfl rfl) ?_
  refine g_v (.free rfl) rfl rfl (qt_assign rfl rfl) ?_
  refine g_nil ?_
  refine gk_then (hK1 _ _ ?_)
  refine gc_seq fun K4 hK4 => ?_
  refine gc_region ?_
  refine g_v (.free rfl) rfl rfl (qt_loadS (n := 0) rfl rfl Tryd.underlying29 rfl (by kernel_rfl) rfl) ?_
  refine g_v (.free rfl) rfl rfl (qt_move rfl rfl) ?_
  refine g_op (.free rfl) fun K6 hK6 => ?_
  refine go_slice1 rfl rfl rfl rfl Tryd.underlying22 ?_
  intro B5
  refine hK6 _ _ ?_
  refine g_op (.free rfl) fun K8 hK8 => ?_
  refine go_callCI rfl rfl rfl Tryd.func36 rfl (by decide) rfl (fun w M => readArrows_any w _ _ _ _ (mem_rdC M h0) ((mem_own1 (n := 1) M rfl).rd)) ?_
  intro ca7 cb7 cc7 cd7 ce7 cf7 cg7 ch7 cu7
  refine hK8 _ _ ?_
  refine g_v (.free rfl) rfl rfl (qt_move rfl rfl) ?_
  refine g_v (.free rfl) rfl rfl (qt_extract rfl rfl rfl) ?_
  refine g_v (.free rfl) rfl rfl (qt_extract rfl rfl rfl) ?_
  refine g_op (.free rfl) fun K10 hK10 => ?_
  refine go_alloc (z := (.agg #[.int .i64 0, .slice none 0 0, .slice none 0 0, .slice none 0 0, .slice none 0 0])) (cs := [.int .i64 0, .slice none 0 0, .slice none 0 0, .slice none 0 0, .slice none 0 0]) rfl rfl rfl (fun w => by kernel_rfl) rfl ?_
  intro B9
  refine hK10 _ _ ?_
  refine g_op (.free rfl) fun K11 hK11 => ?_
  refine go_storeS (n := 6) rfl rfl rfl rfl (by kernel_rfl) rfl rfl rfl ?_
  refine hK11 _ _ ?_
  refine g_v (.free rfl) rfl rfl (qt_assign rfl rfl) ?_
  refine g_nil ?_
  refine gk_then (hK4 _ _ ?_)
  refine gc_seq fun K12 hK12 => ?_
  refine gc_seq fun K13 hK13 => ?_
  refine gc_region ?_
  refine g_v (.free rfl) rfl rfl (qt_move rfl rfl) ?_
  refine g_v (.free rfl) rfl rfl (qt_neq rfl rfl rfl) ?_
  refine g_nil ?_
  refine gk_then (hK13 _ _ ?_)
  refine gc_cond rfl (fun hc0 => ?_) (fun hc0 => ?_)
  · try simp only [decide_eq_true_eq, decide_eq_false_iff_not, Bool.not_eq_true', Bool.not_eq_false', Bool.not_eq_eq_eq_not, Bool.not_true, Bool.not_false, ne_eq, Decidable.not_not, Classical.not_not] at hc0
    refine gc_seq fun K14 hK14 => ?_
    refine gc_region ?_
    refine g_v (.free rfl) rfl rfl (qt_move rfl rfl) ?_
    refine g_v (.free rfl) rfl rfl (qt_assign rfl rfl) ?_
    refine g_v (.free rfl) rfl rfl (qt_assign rfl rfl) ?_
    refine g_nil ?_
    refine gk_then (hK14 _ _ ?_)
    refine gc_ret ?_
    refine gk_then_ret ?_
    refine ret_2 rfl rfl rfl  (fun w M => ?_)
    rw [line_e hc0]; exact ⟨rfl, M.1⟩
  · try simp only [decide_eq_true_eq, decide_eq_false_iff_not, Bool.not_eq_true', Bool.not_eq_false', Bool.not_eq_eq_eq_not, Bool.not_true, Bool.not_false, ne_eq, Decidable.not_not, Classical.not_not] at hc0
    refine gc_skip ?_
    refine gk_then (hK12 _ _ ?_)
    refine gc_seq fun K15 hK15 => ?_
    simp only [arrCat_t hc0]
    have hE := arrErr_0 hc0
    have hS := hE.1.toShapeP
    have hf := allP_one.1 hE.2
    have f0 := hf.1; have f1 := hf.2
    have hn40 := hS.n40; have htl := hS.tl; have hel := hS.el; have hob0 := hS.ob0; have hob8 := hS.ob8; have hml := hS.ml
    have hA := arrP hS f0 f1
    have a1 := hA.fs; have a2 := hA.ft; have a3 := hA.s0; have a4 := hA.s1; have a5 := hA.t0; have a6 := hA.t1; have a7 := hA.row; have a8 := hA.fm
    have d1 := dec_len (x := at0 c.s f) (by omega) (by omega)
    have d2 := dec_len (x := at0 c.t f) (by omega) (by omega)
    have he5 := endT_len hS f0 f1
    refine gc_region ?_
    refine g_v (.free rfl) rfl rfl (qt_loadS (n := 6) rfl rfl Tryd.underlying29 rfl (by kernel_rfl) rfl) ?_
    refine g_v (.free rfl) rfl rfl (qt_move rfl rfl) ?_
    refine g_q (.free rfl) rfl rfl (qt_call rfl Tryd.func37 rfl (by decide) rfl (fun w M => arrowText_any w _ _ _ (rdC_mk ((mem_own1 (n := 2) M rfl).rd) ((mem_own1 (n := 3) M rfl).rd) ((mem_own1 (n := 4) M rfl).rd) (mem_rdU (n := 5) M rfl)) (by first | assumption | omega) (by first | assumption | omega) (by first | assumption | omega))) ?_
    refine g_v (.free rfl) rfl rfl (qt_addS rfl rfl rfl (by simp only [cat_len, List.length_cons, List.length_nil]; omega)) ?_
    refine g_v (.free rfl) rfl rfl (qt_assign rfl rfl) ?_
    refine g_nil ?_
    refine gk_then (hK15 _ _ ?_)
    refine gc_seq fun K16 hK16 => ?_
    refine gc_seq fun K17 hK17 => ?_
    refine gc_region ?_
    refine g_v (.free rfl) rfl rfl (qt_loadS (n := 6) rfl rfl Tryd.underlying29 rfl (by kernel_rfl) rfl) ?_
    refine g_v (.free rfl) rfl rfl (qt_move rfl rfl) ?_
    refine g_op (.free rfl) fun K19 hK19 => ?_
    refine go_callL rfl rfl rfl Tryd.func38 rfl (by decide) rfl (fun w M => followers_any w _ _ _ (rdC_mk ((mem_own1 (n := 2) M rfl).rd) ((mem_own1 (n := 3) M rfl).rd) ((mem_own1 (n := 4) M rfl).rd) (mem_rdU (n := 5) M rfl)) (by first | assumption | omega) (by first | assumption | omega) (by first | assumption | omega)) ?_
    intro va18 vc18
    refine hK19 _ _ ?_
    refine g_v (.free rfl) rfl rfl (qt_len rfl rfl ulE1 (fun w M => lenV_own1 (n := 7) rfl M)) ?_
    refine g_v (.free rfl) rfl rfl (qt_move rfl rfl) ?_
    refine g_nil ?_
    refine gk_then (hK17 _ _ ?_)
    refine gc_block ?_
    try simp only [List.nil_append, List.cons_append, List.append_assoc, List.set_cons_succ, List.set_cons_zero]
    refine gc_loop ([(0, _), (1, _), (2, _), (4, _), (5, _), (6, _), (7, _), (19, _), (27, _), (28, _)] : Env) (fun s : Nat => (fun (j : Nat) => ([(8, sT (lineTo c f (folL c f c.s.length) j)), (29, .int .i64 (j : Int))] : Env)) s) (fun s : Nat => (fun (j : Nat) => ([] : List (Nat × Itm))) s) (fun s : Nat => (fun (j : Nat) => j ≤ (folL c f c.s.length).length ∧ (lineTo c f (folL c f c.s.length) j).length ≤ 6 + 6 * j) s) (fun s : Nat => (fun (j : Nat) => (folL c f c.s.length).length - j) s) (0) (sub_cons rfl (sub_cons rfl (sub_cons rfl (sub_cons rfl (sub_cons rfl (sub_cons rfl (sub_cons rfl (sub_cons rfl (sub_cons rfl (sub_cons rfl (sub_cons rfl (sub_cons rfl sub_nil)))))))))))) rfl ⟨Nat.zero_le _, (by show (cat (endT c f) [58]).length ≤ _; simp only [cat_len, List.length_cons, List.length_nil]; omega)⟩ ?_
    rintro j hinv KL20 hKL20
    simp only [updL, List.foldl_cons, List.foldl_nil, List.set_cons_succ, List.set_cons_zero, List.cons_append, List.nil_append] at hinv hKL20 ⊢
    obtain ⟨hj, hlj⟩ := hinv
    have hfl := fol_len c f c.s.length
    refine gc_seq fun K21 hK21 => ?_
    refine gc_region ?_
    refine g_v (.free rfl) rfl rfl (qt_lss rfl rfl rfl) ?_
    refine g_nil ?_
    refine gk_then (hK21 _ _ ?_)
    refine gc_seq fun K22 hK22 => ?_
    refine gc_cond rfl (fun hc1 => ?_) (fun hc1 => ?_)
    · try simp only [decide_eq_true_eq, decide_eq_false_iff_not, Bool.not_eq_true', Bool.not_eq_false', Bool.not_eq_eq_eq_not, Bool.not_true, Bool.not_false, ne_eq, Decidable.not_not, Classical.not_not] at hc1
      refine gc_skip ?_
      refine gk_then (hK22 _ _ ?_)
      refine gc_seq fun K23 hK23 => ?_
      refine gc_block ?_
      refine gc_seq fun K24 hK24 => ?_
      refine gc_region ?_
      refine g_v (.free rfl) rfl rfl (qt_index rfl rfl rfl ulE1 szE1 (fun w M => lenA_own1 (n := 7) rfl M) (by omega) (by omega)) ?_
      refine g_v (.free rfl) rfl rfl (qt_load1 rfl rfl Tryd.underlying2 rfl (fun w M => (mem_own1 (n := 7) M rfl).rd) (by omega) (by omega)) ?_
      refine g_v (.free rfl) rfl rfl (qt_assign rfl rfl) ?_
      refine g_nil ?_
      refine gk_then (hK24 _ _ ?_)
      have hm := fol_mem (at0_mem1 (show j < (folL c f c.s.length).length by omega))
      have g0 := hm.1; have g1 := hm.2.1; have g2 := hm.2.2
      have hc5 := compT_len hS f0 f1 g0 (by omega) g2
      refine gc_region ?_
      refine g_v (.free rfl) rfl rfl (qt_move rfl rfl) ?_
      refine g_v (.free rfl) rfl rfl (qt_loadS (n := 6) rfl rfl Tryd.underlying29 rfl (by kernel_rfl) rfl) ?_
      refine g_v (.free rfl) rfl rfl (qt_move rfl rfl) ?_
      refine g_v (.free rfl) rfl rfl (qt_move rfl rfl) ?_
      refine g_q (.free rfl) rfl rfl (qt_call rfl Tryd.func39 rfl (by decide) rfl (fun w M => compText_any w _ _ _ _ (rdC_mk ((mem_own1 (n := 2) M rfl).rd) ((mem_own1 (n := 3) M rfl).rd) ((mem_own1 (n := 4) M rfl).rd) (mem_rdU (n := 5) M rfl)) (by first | assumption | omega) (by first | assumption | omega) (by first | assumption | omega) (by first | assumption | omega) (by first | assumption | omega) (by first | assumption | omega))) ?_
      refine g_v (.free rfl) rfl rfl (qt_addS rfl rfl rfl (by simp only [cat_len, List.length_cons, List.length_nil]; omega)) ?_
      refine g_v (.free rfl) rfl rfl (qt_addS rfl rfl rfl (by simp only [cat_len, List.length_cons, List.length_nil]; omega)) ?_
      refine g_v (.free rfl) rfl rfl (qt_assign rfl rfl) ?_
      refine g_nil ?_
      refine gk_block ?_
      refine gk_then (hK23 _ _ ?_)
      refine gc_region ?_
      refine g_v (.free rfl) rfl rfl (qt_add rfl rfl rfl (by omega)) ?_
      refine g_v (.free rfl) rfl rfl (qt_move rfl rfl) ?_
      refine g_nil ?_
      refine gk_then (gk_take 8 ?_)
      refine gk_sub ?hs_25 (hKL20 (j + 1) ?hi_25 ?hm_25)
      case hs_25 => exact (sub_cons rfl (sub_cons rfl (sub_cons rfl (sub_cons rfl (sub_cons rfl (sub_cons rfl (sub_cons rfl (sub_cons rfl (sub_cons rfl (sub_cons rfl (sub_cons rfl (sub_cons rfl sub_nil))))))))))))
      case hi_25 => exact ⟨by omega, (by show (cat (lineTo c f (folL c f c.s.length) j) (cat [32] (compT c f (at0 (folL c f c.s.length) (j : Int))))).length ≤ _; simp only [cat_len, List.length_cons, List.length_nil]; omega)⟩
      case hm_25 => omega
    · try simp only [decide_eq_true_eq, decide_eq_false_iff_not, Bool.not_eq_true', Bool.not_eq_false', Bool.not_eq_eq_eq_not, Bool.not_true, Bool.not_false, ne_eq, Decidable.not_not, Classical.not_not] at hc1
      refine gc_exit ?_
      refine gk_then_exit ?_
      refine gk_then_exit ?_
      refine gk_block_hit ?_
      refine gk_then (hK16 _ _ ?_)
      refine gc_seq fun K26 hK26 => ?_
      refine gc_region ?_
      refine g_v (.free rfl) rfl rfl (qt_move rfl rfl) ?_
      refine g_v (.free rfl) rfl rfl (qt_assign rfl rfl) ?_
      refine g_v (.free rfl) rfl rfl (qt_assign rfl rfl) ?_
      refine g_nil ?_
      refine gk_then (hK26 _ _ ?_)
      refine gc_ret ?_
      refine ret_2 rfl rfl rfl  (fun w M => ?_)
      obtain rfl : j = (folL c f c.s.length).length := by omega
      rw [line_t hc0, ← lineTo_all]; exact ⟨rfl, M.1⟩

set_option maxHeartbeats 1000000 in
set_option maxRecDepth 100000 in
theorem spec_CategoryLine (w : World) (v : Value) (c : Cat) (f : Int) (h : RdC w v c) :
    Calls Tryd.prog 16 #[v, .int .i64 f] w (RetSI w (fCategoryLine c f).1 (fCategoryLine c f).2) := by
  have h0 := h
  obtain ⟨va, vb, vc, vd, ve, vf, vg, vh, rfl, h1, h2, h3, h4, _⟩ := h.lists
  go_enter Tryd.func16, Tryd.ntmps16
  refine gc_enter (N := 71) rfl (look_cons (k := 0) rfl (look_cons (k := 1) rfl (look_nil _))) ?_
  refine gc_seq fun K1 hK1 => ?_
  refine gc_region ?_
  refine g_op (.free rfl) fun K3 hK3 => ?_
  refine go_box rfl rfl rfl rfl rfl ?_
  intro B2
  refine hK3 _ _ ?_
  refine g_v (.free rfl) rfl rfl (qt_assign rfl rfl) ?_
  refine g_v (.free rfl) rfl rfl (qt_assign rfl rfl) ?_
  refine g_nil ?_
  refine gk_then (hK1 _ _ ?_)
  refine gc_seq fun K4 hK4 => ?_
  refine gc_seq fun K5 hK5 => ?_
  refine gc_region ?_
  refine g_v (.free rfl) rfl rfl (qt_loadS (n := 0) rfl rfl Tryd.underlying29 rfl (by kernel_rfl) rfl) ?_
  refine g_q (.free rfl) rfl rfl (qt_call rfl Tryd.func20 rfl (by decide) rfl (fun w M => specIs_any w _ _ (mem_rdC M h0))) ?_
  refine g_v (.free rfl) rfl rfl (qt_not rfl rfl) ?_
  refine g_nil ?_
  refine gk_then (hK5 _ _ ?_)
  refine gc_cond rfl (fun hc0 => ?_) (fun hc0 => ?_)
  · try simp only [decide_eq_true_eq, decide_eq_false_iff_not, Bool.not_eq_true', Bool.not_eq_false', Bool.not_eq_eq_eq_not, Bool.not_true, Bool.not_false, ne_eq, Decidable.not_not, Classical.not_not] at hc0
    refine gc_seq fun K6 hK6 => ?_
    refine gc_region ?_
    refine g_v (.free rfl) rfl rfl (qt_assign rfl rfl) ?_
    refine g_v (.free rfl) rfl rfl (qt_assign rfl rfl) ?_
    refine g_nil ?_
    refine gk_then (hK6 _ _ ?_)
    refine gc_ret ?_
    refine gk_then_ret ?_
    refine ret_2 rfl rfl rfl  (fun w M => ?_)
    rw [line_e (by rw [arrErr_f hc0]; decide), arrErr_f hc0]; exact ⟨rfl, M.1⟩
  · try simp only [decide_eq_true_eq, decide_eq_false_iff_not, Bool.not_eq_true', Bool.not_eq_false', Bool.not_eq_eq_eq_not, Bool.not_true, Bool.not_false, ne_eq, Decidable.not_not, Classical.not_not] at hc0
    refine gc_skip ?_
    refine gk_then (hK4 _ _ ?_)
    refine gc_seq fun K7 hK7 => ?_
    refine gc_seq fun K8 hK8 => ?_
    refine gc_region ?_
    refine g_v (.free rfl) rfl rfl (qt_loadS (n := 0) rfl rfl Tryd.underlying29 rfl (by kernel_rfl) rfl) ?_
    refine g_v (.free rfl) rfl rfl (qt_move rfl rfl) ?_
    refine g_q (.free rfl) rfl rfl (qt_call rfl Tryd.func33 rfl (by decide) rfl (fun w M => specArrow_any w _ _ _ (mem_rdC M h0))) ?_
    refine g_v (.free rfl) rfl rfl (qt_not rfl rfl) ?_
    refine g_nil ?_
    refine gk_then (hK8 _ _ ?_)
    refine gc_cond rfl (fun hc1 => ?_) (fun hc1 => ?_)
    · try simp only [decide_eq_true_eq, decide_eq_false_iff_not, Bool.not_eq_true', Bool.not_eq_false', Bool.not_eq_eq_eq_not, Bool.not_true, Bool.not_false, ne_eq, Decidable.not_not, Classical.not_not] at hc1
      refine gc_seq fun K9 hK9 => ?_
      refine gc_region ?_
      refine g_v (.free rfl) rfl rfl (qt_assign rfl rfl) ?_
      refine g_v (.free rfl) rfl rfl (qt_assign rfl rfl) ?_
      refine g_nil ?_
      refine gk_then (hK9 _ _ ?_)
      refine gc_ret ?_
      refine gk_then_ret ?_
      refine ret_2 rfl rfl rfl  (fun w M => ?_)
      rw [line_e (by rw [arrErr_r hc0 (fun h => hc1 (allP_one.1 h))]; decide), arrErr_r hc0 (fun h => hc1 (allP_one.1 h))]; exact ⟨rfl, M.1⟩
    · try simp only [decide_eq_true_eq, decide_eq_false_iff_not, Bool.not_eq_true', Bool.not_eq_false', Bool.not_eq_eq_eq_not, Bool.not_true, Bool.not_false, ne_eq, Decidable.not_not, Classical.not_not] at hc1
      refine gc_skip ?_
      refine gk_then (hK7 _ _ ?_)
      refine gc_seq fun K10 hK10 => ?_
      have hz : arrErr c [f] = 0 := arrErr_t hc0 (allP_one.2 hc1)
      have hE := arrErr_0 hz
      have hS := hE.1.toShapeP
      have hf := allP_one.1 hE.2
      have f0 := hf.1; have f1 := hf.2
      have hn40 := hS.n40; have htl := hS.tl; have hel := hS.el; have hob0 := hS.ob0; have hob8 := hS.ob8; have hml := hS.ml
      have hA := arrP hS f0 f1
      have a1 := hA.fs; have a2 := hA.ft; have a3 := hA.s0; have a4 := hA.s1; have a5 := hA.t0; have a6 := hA.t1; have a7 := hA.row; have a8 := hA.fm
      have d1 := dec_len (x := at0 c.s f) (by omega) (by omega)
      have d2 := dec_len (x := at0 c.t f) (by omega) (by omega)
      have he5 := endT_len hS f0 f1
      refine gc_draw (by kernel_rfl) ?_
      refine gd_v (.free rfl) rfl rfl (qt_field (z := 0) (off := 1) rfl rfl Tryd.underlying29 rfl (by kernel_rfl) rfl) ?_
      refine gd_v (.free rfl) rfl rfl (qt_loadB (n := 0) rfl rfl Tryd.underlying22 rfl rfl rfl) ?_
      refine gd_v (.free rfl) rfl rfl (qt_move rfl rfl) ?_
      refine gd_v (.free rfl) rfl rfl (qt_index rfl rfl rfl ulE1 szE1 (fun w M => lenA_rd h1) (by omega) (by omega)) ?_
      refine gd_v (.free rfl) rfl rfl (qt_load1 rfl rfl Tryd.underlying2 rfl (fun w M => mem_rd M h1) (by omega) (by omega)) ?_
      refine gd_q (.free rfl) rfl rfl (qt_call rfl Tryd.func34 rfl (by decide) rfl (fun w M => specDec_any w _ (by first | assumption | omega) (by first | assumption | omega))) ?_
      refine gd_v (.free rfl) rfl rfl (qt_addS rfl rfl rfl (by simp only [cat_len, List.length_cons, List.length_nil]; omega)) ?_
      refine gd_v (.free rfl) rfl rfl (qt_field (z := 0) (off := 2) rfl rfl Tryd.underlying29 rfl (by kernel_rfl) rfl) ?_
      refine gd_v (.free rfl) rfl rfl (qt_loadB (n := 0) rfl rfl Tryd.underlying22 rfl rfl rfl) ?_
      refine gd_v (.free rfl) rfl rfl (qt_move rfl rfl) ?_
      refine gd_v (.free rfl) rfl rfl (qt_index rfl rfl rfl ulE1 szE1 (fun w M => lenA_rd h2) (by omega) (by omega)) ?_
      refine gd_v (.free rfl) rfl rfl (qt_load1 rfl rfl Tryd.underlying2 rfl (fun w M => mem_rd M h2) (by omega) (by omega)) ?_
      refine gd_q (.free rfl) rfl rfl (qt_call rfl Tryd.func34 rfl (by decide) rfl (fun w M => specDec_any w _ (by first | assumption | omega) (by first | assumption | omega))) ?_
      refine gd_v (.free rfl) rfl rfl (qt_addS rfl rfl rfl (by simp only [cat_len, List.length_cons, List.length_nil]; omega)) ?_
      refine gd_v (.free rfl) rfl rfl (qt_addS rfl rfl rfl (by simp only [cat_len, List.length_cons, List.length_nil]; omega)) ?_
      refine gd_v (.free rfl) rfl rfl (qt_assign rfl rfl) ?_
      refine gd_nil ?_
      refine gk_then (hK10 _ _ ?_)
      refine gc_seq fun K11 hK11 => ?_
      refine gc_seq fun K12 hK12 => ?_
      refine gc_region ?_
      refine g_v (.free rfl) rfl rfl (qt_assign rfl rfl) ?_
      refine g_nil ?_
      refine gk_then (hK12 _ _ ?_)
      refine gc_block ?_
      try simp only [List.nil_append, List.cons_append, List.append_assoc, List.set_cons_succ, List.set_cons_zero]
      refine gc_loop ([(0, _), (1, _), (2, _), (4, _), (5, _), (10, _), (14, _)] : Env) (fun s : Nat => (fun (k : Nat) => ([(6, sT (lineS c f k)), (7, .int .i64 (k : Int))] : Env)) s) (fun s : Nat => (fun (k : Nat) => ([] : List (Nat × Itm))) s) (fun s : Nat => (fun (k : Nat) => k ≤ c.s.length ∧ (lineS c f k).length ≤ 6 + 6 * k) s) (fun s : Nat => (fun (k : Nat) => c.s.length - k) s) (0) (sub_cons rfl (sub_cons rfl (sub_cons rfl (sub_cons rfl (sub_cons rfl (sub_cons rfl (sub_cons rfl (sub_cons rfl (sub_cons rfl sub_nil))))))))) rfl ⟨Nat.zero_le _, (by show (cat (endT c f) [58]).length ≤ _; simp only [cat_len, List.length_cons, List.length_nil]; omega)⟩ ?_
      rintro k hinv KL13 hKL13
      simp only [updL, List.foldl_cons, List.foldl_nil, List.set_cons_succ, List.set_cons_zero, List.cons_append, List.nil_append] at hinv hKL13 ⊢
      obtain ⟨hk, hlk⟩ := hinv
      refine gc_seq fun K14 hK14 => ?_
      refine gc_seq fun K15 hK15 => ?_
      refine gc_region ?_
      refine g_v (.free rfl) rfl rfl (qt_move rfl rfl) ?_
      refine g_v (.free rfl) rfl rfl (qt_field (z := 0) (off := 1) rfl rfl Tryd.underlying29 rfl (by kernel_rfl) rfl) ?_
      refine g_v (.free rfl) rfl rfl (qt_loadB (n := 0) rfl rfl Tryd.underlying22 rfl rfl rfl) ?_
      refine g_v (.free rfl) rfl rfl (qt_len rfl rfl ulE1 (fun w M => lenV_rd h1)) ?_
      refine g_v (.free rfl) rfl rfl (qt_lss rfl rfl rfl) ?_
      refine g_nil ?_
      refine gk_then (hK15 _ _ ?_)
      refine gc_cond rfl (fun hc2 => ?_) (fun hc2 => ?_)
      · try simp only [decide_eq_true_eq, decide_eq_false_iff_not, Bool.not_eq_true', Bool.not_eq_false', Bool.not_eq_eq_eq_not, Bool.not_true, Bool.not_false, ne_eq, Decidable.not_not, Classical.not_not] at hc2
        refine gc_skip ?_
        refine gk_then (hK14 _ _ ?_)
        refine gc_seq fun K16 hK16 => ?_
        refine gc_block ?_
        refine gc_seq fun K17 hK17 => ?_
        have hB := arrP hS (f := (k : Int)) (by omega) (by omega)
        have b1 := hB.fs; have b2 := hB.ft
        have hlk2 := hlk
        refine gc_draw (by kernel_rfl) ?_
        refine gd_v (.free rfl) rfl rfl (qt_field (z := 0) (off := 2) rfl rfl Tryd.underlying29 rfl (by kernel_rfl) rfl) ?_
        refine gd_v (.free rfl) rfl rfl (qt_loadB (n := 0) rfl rfl Tryd.underlying22 rfl rfl rfl) ?_
        refine gd_v (.free rfl) rfl rfl (qt_move rfl rfl) ?_
        refine gd_v (.free rfl) rfl rfl (qt_index rfl rfl rfl ulE1 szE1 (fun w M => lenA_rd h2) (by omega) (by omega)) ?_
        refine gd_v (.free rfl) rfl rfl (qt_load1 rfl rfl Tryd.underlying2 rfl (fun w M => mem_rd M h2) (by omega) (by omega)) ?_
        refine gd_v (.free rfl) rfl rfl (qt_field (z := 0) (off := 1) rfl rfl Tryd.underlying29 rfl (by kernel_rfl) rfl) ?_
        refine gd_v (.free rfl) rfl rfl (qt_loadB (n := 0) rfl rfl Tryd.underlying22 rfl rfl rfl) ?_
        refine gd_v (.free rfl) rfl rfl (qt_move rfl rfl) ?_
        refine gd_v (.free rfl) rfl rfl (qt_index rfl rfl rfl ulE1 szE1 (fun w M => lenA_rd h1) (by omega) (by omega)) ?_
        refine gd_v (.free rfl) rfl rfl (qt_load1 rfl rfl Tryd.underlying2 rfl (fun w M => mem_rd M h1) (by omega) (by omega)) ?_
        refine gd_v (.free rfl) rfl rfl (qt_eql rfl rfl rfl) ?_
        refine gd_splitv (.free rfl) rfl rfl (qt_move rfl rfl) (fun hs9_11 => ?_) (fun hs9_11 => ?_)
        · try simp only [decide_eq_true_eq, decide_eq_false_iff_not, Bool.not_eq_true', Bool.not_eq_false', Bool.not_eq_eq_eq_not, Bool.not_true, Bool.not_false, ne_eq, Decidable.not_not, Classical.not_not] at hs9_11
          refine gd_v (.held _ _ _ rfl rfl rfl) rfl rfl (qt_loadS (n := 0) rfl rfl Tryd.underlying29 rfl (by kernel_rfl) rfl) ?_
          refine gd_v (.held _ _ _ rfl rfl rfl) rfl rfl (qt_move rfl rfl) ?_
          refine gd_q (.held _ _ _ rfl rfl rfl) rfl rfl (qt_call rfl Tryd.func35 rfl (by decide) rfl (fun w M => specUnit_any w _ _ _ (mem_rdC M h0) (by first | assumption | omega) (by first | assumption | omega) (by first | assumption | omega))) ?_
          refine gd_v (.held _ _ _ rfl rfl rfl) rfl rfl (qt_not rfl rfl) ?_
          refine gd_v (.free rfl) rfl rfl (qt_pick_t rfl rfl rfl) ?_
          refine gd_nil ?_
          refine gk_then (hK17 _ _ ?_)
          refine gc_cond rfl (fun hc3 => ?_) (fun hc3 => ?_)
          · try simp only [decide_eq_true_eq, decide_eq_false_iff_not, Bool.not_eq_true', Bool.not_eq_false', Bool.not_eq_eq_eq_not, Bool.not_true, Bool.not_false, ne_eq, Decidable.not_not, Classical.not_not] at hc3
            have hb : okFol c f k := ⟨hs9_11, hc3⟩
            have hT := th_ends hS f0 f1 (g := (k : Int)) (by omega) (by omega) hs9_11
            have t0 : 0 ≤ at0 (row2 c.m f) (k : Int) := hT.1.1; have t1 : at0 (row2 c.m f) (k : Int) < c.s.length := hT.1.2
            have d3 := dec_len (x := (k : Int)) (by omega) (by omega)
            have d4 := dec_len (x := at0 (row2 c.m f) (k : Int)) (by omega) (by omega)
            refine gc_draw (by kernel_rfl) ?_
            refine gd_v (.free rfl) rfl rfl (qt_move rfl rfl) ?_
            refine gd_v (.free rfl) rfl rfl (qt_addS rfl rfl rfl (by simp only [cat_len, List.length_cons, List.length_nil]; omega)) ?_
            refine gd_v (.free rfl) rfl rfl (qt_move rfl rfl) ?_
            refine gd_q (.free rfl) rfl rfl (qt_call rfl Tryd.func34 rfl (by decide) rfl (fun w M => specDec_any w _ (by first | assumption | omega) (by first | assumption | omega))) ?_
            refine gd_v (.free rfl) rfl rfl (qt_addS rfl rfl rfl (by simp only [cat_len, List.length_cons, List.length_nil]; omega)) ?_
            refine gd_v (.free rfl) rfl rfl (qt_addS rfl rfl rfl (by simp only [cat_len, List.length_cons, List.length_nil]; omega)) ?_
            refine gd_v (.free rfl) rfl rfl (qt_field (z := 0) (off := 4) rfl rfl Tryd.underlying29 rfl (by kernel_rfl) rfl) ?_
            refine gd_v (.free rfl) rfl rfl (qt_loadB (n := 0) rfl rfl Tryd.underlying23 rfl rfl rfl) ?_
            refine gd_v (.free rfl) rfl rfl (qt_move rfl rfl) ?_
            refine gd_v (.free rfl) rfl rfl (qt_index rfl rfl rfl ulE2 szE2 (fun w M => lenA_rd2 h4) (by omega) (by omega)) ?_
            refine gd_load2 (.free rfl) rfl rfl rfl rfl Tryd.underlying22 rfl h4 (by omega) (by omega) ?_
            intro ra18 rc18 hr18
            refine gd_v (.free rfl) rfl rfl (qt_move rfl rfl) ?_
            refine gd_v (.free rfl) rfl rfl (qt_index rfl rfl rfl ulE1 szE1 (fun w M => lenA_rd hr18) (by omega) (by omega)) ?_
            refine gd_v (.free rfl) rfl rfl (qt_load1 rfl rfl Tryd.underlying2 rfl (fun w M => mem_rd M hr18) (by omega) (by omega)) ?_
            refine gd_q (.free rfl) rfl rfl (qt_call rfl Tryd.func34 rfl (by decide) rfl (fun w M => specDec_any w _ (by first | assumption | omega) (by first | assumption | omega))) ?_
            refine gd_v (.free rfl) rfl rfl (qt_addS rfl rfl rfl (by simp only [cat_len, List.length_cons, List.length_nil]; omega)) ?_
            refine gd_v (.free rfl) rfl rfl (qt_assign rfl rfl) ?_
            refine gd_nil ?_
            refine gk_block ?_
            refine gk_then (hK16 _ _ ?_)
            refine gc_region ?_
            refine g_v (.free rfl) rfl rfl (qt_move rfl rfl) ?_
            refine g_v (.free rfl) rfl rfl (qt_add rfl rfl rfl (by omega)) ?_
            refine g_v (.free rfl) rfl rfl (qt_assign rfl rfl) ?_
            refine g_nil ?_
            rw [lineS_t hb]
            refine gk_then (gk_take 1 ?_)
            refine gk_sub ?hs_19 (hKL13 (k + 1) ?hi_19 ?hm_19)
            case hs_19 => exact (sub_cons rfl (sub_cons rfl (sub_cons rfl (sub_cons rfl (sub_cons rfl (sub_cons rfl (sub_cons rfl (sub_cons rfl (sub_cons rfl sub_nil)))))))))
            case hi_19 => exact ⟨by omega, (by rw [← lineS_t hb]; simp only [cat_len, List.length_cons, List.length_nil]; omega)⟩
            case hm_19 => omega
          · try simp only [decide_eq_true_eq, decide_eq_false_iff_not, Bool.not_eq_true', Bool.not_eq_false', Bool.not_eq_eq_eq_not, Bool.not_true, Bool.not_false, ne_eq, Decidable.not_not, Classical.not_not] at hc3
            refine gc_skip ?_
            refine gk_block ?_
            refine gk_then (hK16 _ _ ?_)
            refine gc_region ?_
            refine g_v (.free rfl) rfl rfl (qt_move rfl rfl) ?_
            refine g_v (.free rfl) rfl rfl (qt_add rfl rfl rfl (by omega)) ?_
            refine g_v (.free rfl) rfl rfl (qt_assign rfl rfl) ?_
            refine g_nil ?_
            have hb : ¬ okFol c f k := fun h => h.2 hc3
            rw [lineS_f hb]
            refine gk_then (gk_take 1 ?_)
            refine gk_sub ?hs_20 (hKL13 (k + 1) ?hi_20 ?hm_20)
            case hs_20 => exact (sub_cons rfl (sub_cons rfl (sub_cons rfl (sub_cons rfl (sub_cons rfl (sub_cons rfl (sub_cons rfl (sub_cons rfl (sub_cons rfl sub_nil)))))))))
            case hi_20 => exact ⟨by omega, (by rw [← lineS_f hb]; omega)⟩
            case hm_20 => omega
        · try simp only [decide_eq_true_eq, decide_eq_false_iff_not, Bool.not_eq_true', Bool.not_eq_false', Bool.not_eq_eq_eq_not, Bool.not_true, Bool.not_false, ne_eq, Decidable.not_not, Classical.not_not] at hs9_11
          refine gd_skip (.not _ _ _ _ rfl rfl rfl rfl) rfl rfl ?_
          refine gd_skip (.not _ _ _ _ rfl rfl rfl rfl) rfl rfl ?_
          refine gd_skip (.not _ _ _ _ rfl rfl rfl rfl) rfl rfl ?_
          refine gd_skip (.not _ _ _ _ rfl rfl rfl rfl) rfl rfl ?_
          refine gd_v (.free rfl) rfl rfl (qt_pick_f rfl rfl rfl) ?_
          refine gd_nil ?_
          refine gk_then (hK17 _ _ ?_)
          refine gc_cond_f rfl ?_
          refine gc_skip ?_
          refine gk_block ?_
          refine gk_then (hK16 _ _ ?_)
          refine gc_region ?_
          refine g_v (.free rfl) rfl rfl (qt_move rfl rfl) ?_
          refine g_v (.free rfl) rfl rfl (qt_add rfl rfl rfl (by omega)) ?_
          refine g_v (.free rfl) rfl rfl (qt_assign rfl rfl) ?_
          refine g_nil ?_
          have hb : ¬ okFol c f k := fun h => hs9_11 h.1
          rw [lineS_f hb]
          refine gk_then (gk_take 1 ?_)
          refine gk_sub ?hs_21 (hKL13 (k + 1) ?hi_21 ?hm_21)
          case hs_21 => exact (sub_cons rfl (sub_cons rfl (sub_cons rfl (sub_cons rfl (sub_cons rfl (sub_cons rfl (sub_cons rfl (sub_cons rfl (sub_cons rfl sub_nil)))))))))
          case hi_21 => exact ⟨by omega, (by rw [← lineS_f hb]; omega)⟩
          case hm_21 => omega
      · try simp only [decide_eq_true_eq, decide_eq_false_iff_not, Bool.not_eq_true', Bool.not_eq_false', Bool.not_eq_eq_eq_not, Bool.not_true, Bool.not_false, ne_eq, Decidable.not_not, Classical.not_not] at hc2
        refine gc_exit ?_
        refine gk_then_exit ?_
        refine gk_then_exit ?_
        refine gk_block_hit ?_
        refine gk_then (hK11 _ _ ?_)
        refine gc_seq fun K22 hK22 => ?_
        refine gc_region ?_
        refine g_v (.free rfl) rfl rfl (qt_move rfl rfl) ?_
        refine g_v (.free rfl) rfl rfl (qt_assign rfl rfl) ?_
        refine g_v (.free rfl) rfl rfl (qt_assign rfl rfl) ?_
        refine g_nil ?_
        refine gk_then (hK22 _ _ ?_)
        refine gc_ret ?_
        refine ret_2 rfl rfl rfl  (fun w M => ?_)
        obtain rfl : k = c.s.length := by omega
        rw [line_t hz, show lineT c f = lineS c f c.s.length from (lineS_eq c f _).symm]; exact ⟨rfl, M.1⟩

end Go.Proofs.YtelbjdbefaffpaaDoor
