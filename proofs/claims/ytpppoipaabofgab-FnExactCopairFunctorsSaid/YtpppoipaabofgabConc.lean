
/- slices.Concat of lists of numbers: the room that is made first, and two lists as the rows of a block. -/
import Derived.Test.YtpppoipaabofgabRul4
import Derived.Test.YtpppoipaabofgabEnts
import Derived.Test.YtpppoipaabofgabOwnL
set_option linter.unusedSimpArgs false
set_option linter.unusedVariables false
set_option linter.unusedSectionVars false
namespace Go.Proofs.Ytpppoipaabofgab
open Go.RowKit


theorem rd2_bx2 {w : World} {B : Nat} {v1 v2 : Value} {l1 l2 : List Int} (hb : Bx w B 22 [v1, v2]) (h1 : Rd w v1 l1) (h2 : Rd w v2 l2) : Rd2 w (.slice (some ⟨B, 0, none⟩) 2 2) [l1, l2] := by
  refine ⟨_, _, rfl, by simp, fun j _ => ⟨B, 0, rfl, bx_lt hb, fun i hi => ?_⟩⟩
  match i, hi with
  | 0, _ => exact ⟨v1, by simpa using bx_cell hb 0 (v := v1) rfl, h1⟩
  | 1, _ => exact ⟨v2, by simpa using bx_cell hb 1 (v := v2) rfl, h2⟩
theorem fill2S (f : Nat → Value) (a b : Value) : ((Array.map f (Array.range 2)).setIfInBounds 0 a).setIfInBounds 1 b = #[a, b] := by
  apply Array.ext'
  simp [List.range, List.range.loop]
theorem ulSS : Try.prog.underlying 23 = some (.slice 22) := by kernel_rfl
section
variable {w0 : World} {is : List Itm} {ops : Array Oper} {Q : Exit → Act → World → Prop} {o : Oper} {N k : Nat} {e : Env} {v : Value} {d : Nat} {K : Act → World → Prop}
theorem go_sliceH2 {t : TypeId} {x1 x2 : Operand} {a1 a2 : Option Addr} {n1 n2 c1 c2 : Nat} (hd : o.dst = some d) (hN : Nat.blt d N = true) (hop : o.op = .buildSlice t 2 #[(0, x1), (1, x2)]) (h1 : evo e x1 = some (.slice a1 n1 c1)) (h2 : evo e x2 = some (.slice a2 n2 c2)) (ht : t = 23)
    (hk : ∀ B : Nat, GK w0 (is ++ [bxI B 22 [.slice a1 n1 c1, .slice a2 n2 c2]]) N K ((d, .slice (some ⟨B, 0, none⟩) 2 2) :: e)) : GO w0 is N o e Q K := by
  subst ht
  intro w ac M F
  refine go_val (v := .slice (some ⟨w.heap.size, 0, none⟩) 2 2) (w' := w.alloc (.cells #[.slice a1 n1 c1, .slice a2 n2 c2] 22)) hd hN F ?_ fun ac F => hk _ _ ac (mem_new M (below_alloc w _) ⟨heap_alloc_new w _, Nat.le_refl _⟩) F
  intro ρ F; have h1 := F _ _ h1; have h2 := F _ _ h2
  obtain ⟨i, hi, hz, hs, hb⟩ := info_parts infoS
  simp [execOp, hop, h1, h2, Instr.buildSlice, run_underlying ulSS, sizeOf, typeInfo, hi, hs, Instr.fill, newRow, zeroValue, hz, Value.cells, Sem.run_bind]
  rw [fill2S]
theorem run_appendN {w : World} {t t2 ty : TypeId} {n : Nat} (ht : Try.prog.underlying t = some (.slice 2)) (hu : Try.prog.underlying t2 = some (.int .i64)) (h0 : 0 < n) (hn : n ≤ 1000) :
    (Builtin.append_ #[t, t2] ty #[.slice none 0 0, .int .i64 (n : Int)]).run Try.prog w = .ok (.slice (some ⟨w.heap.size, 0, none⟩) n (grownCap w n 0 2)) (w.drew.alloc (.cells (Builtin.zeroCells #[.int .i64 0] n ++ Builtin.zeroCells #[.int .i64 0] (grownCap w n 0 2 - n)) 2)) := by
  obtain ⟨i, hi, hz, hs, hb⟩ := info_parts info64
  have hc : (Value.int .i64 0).cells = #[.int .i64 0] := rfl
  have h1 : IntKind.i64.wrap (n : Int) = (n : Int) := by rw [IntKind.wrap_i64]; omega
  have h2 : ¬ ((n : Int) < 0) := by omega
  have h3 : ¬ ((281474976710656 : Int) < (n : Int) * 8) := by omega
  have h4 : ¬ (9223372036854775807 < (n : Int)) := by omega
  have h5 : ¬ (281474976710656 < Builtin.nextslicecap n 0 * 8) := by rw [nextslicecap_zero h0]; omega
  have hne : n ≠ 0 := by omega
  simp [Builtin.append_, run_underlying ht, run_underlying hu, sizeOf, typeInfo, zeroValue, hi, hz, hs, hb, hc, Builtin.lenOf, asInt, asIntOf, h1, h2, h3, h4, h5, hne, Question.forced, run_firstCells_none, newRow, grownCap]
theorem toList_zeroN (n : Nat) : (Builtin.zeroCells #[Value.int .i64 0] n).toList = List.replicate n (Value.int .i64 0) := by
  refine List.ext_getElem (by simp [Builtin.zeroCells]) fun i h1 h2 => ?_
  simp [Builtin.zeroCells, Nat.mod_one]
theorem own1_zeros {w : World} {n : Nat} (hn : n ≤ 1000) : Own1 (.slice (some ⟨w.heap.size, 0, none⟩) n (grownCap w n 0 2)) (List.replicate n 0) (w.drew.alloc (.cells (Builtin.zeroCells #[.int .i64 0] n ++ Builtin.zeroCells #[.int .i64 0] (grownCap w n 0 2 - n)) 2)) (fun q => w.heap.size ≤ q) := by
  have hge := grownCap_ge w n 0 2
  have hcm : grownCap w n 0 2 ≤ maxLen := grownCap_le_maxLen w n 0 2 (by simp only [maxLen]; omega)
  refine own1_of (lo := w.heap.size) ⟨⟨by simp, .inr ⟨w.heap.size, _, _, by simp, Nat.le_refl _, heap_alloc_new w.drew _, by simpa using hge, hcm, ?_, ?_⟩⟩, by simp; omega⟩
  · simp only [Array.size_append, size_zeroCells]; simp; omega
  · simp only [Array.toList_append, toList_zeroN]; simp
theorem go_appendN {x y : Operand} {t t2 : TypeId} {z : Int} {n : Nat} (hd : o.dst = some d) (hN : Nat.blt d N = true) (hop : o.op = .call { callee := .builtin .append, args := #[x, y], argTypes := #[t, t2] }) (ht : Try.prog.underlying t = some (.slice 2)) (hu : Try.prog.underlying t2 = some (.int .i64))
    (hx : evo e x = some (.slice none 0 0)) (hy : evo e y = some (.int .i64 z)) (hz : z = (n : Int)) (h0 : 0 < n) (hn : n ≤ 1000)
    (hk : ∀ B cap : Nat, n ≤ cap → GK w0 (is ++ [own1I (.slice (some ⟨B, 0, none⟩) n cap) (List.replicate n 0)]) N K ((d, .slice (some ⟨B, 0, none⟩) n cap) :: e)) : GO w0 is N o e Q K := by
  subst hz
  intro w ac M F
  have hbl : Below w.heap.size w (w.drew.alloc (.cells (Builtin.zeroCells #[.int .i64 0] n ++ Builtin.zeroCells #[.int .i64 0] (grownCap w n 0 2 - n)) 2)) := (Below.refl _ _).drew.alloc (Nat.le_refl _) _
  refine go_val (v := .slice (some ⟨w.heap.size, 0, none⟩) n (grownCap w n 0 2)) hd hN F ?_ fun ac F => hk w.heap.size _ (grownCap_ge w n 0 2) _ ac (mem_new M hbl (own1_zeros hn)) F
  intro ρ F; have hx := F _ _ hx; have hy := F _ _ hy
  simp only [execOp, hop, resolve, invoke, builtin, Sem.run_bind, Sem.run_pure, Result.andThen_ok, List.map_toArray, List.map_cons, List.map_nil, hx, hy]
  rw [run_appendN ht hu h0 hn]
  rfl
theorem own1_cut {g n cap : Nat} {xs : List Int} {w : World} {S : Nat → Prop} (h : Own1 (.slice (some ⟨g, 0, none⟩) n cap) xs w S) : Own1 (.slice (some ⟨g, 0, none⟩) 0 cap) [] w S := by
  obtain ⟨⟨⟨hl, hor⟩, hm⟩, hq⟩ := h
  refine ⟨⟨⟨by simp, .inr ?_⟩, by simp⟩, fun q e => hq q e⟩
  rcases hor with ⟨hv, _⟩ | ⟨g', cap', cur, hv, hb, hg, hnc, hcm, hcs, ht⟩
  · cases hv
  · simp only [Value.slice.injEq, Option.some.injEq, Addr.mk.injEq] at hv
    obtain ⟨⟨rfl, _⟩, _, rfl⟩ := hv
    exact ⟨_, _, cur, rfl, hb, hg, Nat.zero_le _, hcm, hcs, by simp⟩
theorem go_cut0 {x y : Operand} {t : TypeId} {z : Int} {g n cap : Nat} {xs : List Int} (hd : o.dst = some d) (hN : Nat.blt d N = true) (hop : o.op = .slice t x none (some y) none) (hx : evo e x = some (.slice (some ⟨g, 0, none⟩) n cap)) (hy : evo e y = some (.int .i64 z)) (hz : z = 0) (ht : Try.prog.underlying t = some (.slice 2))
    (hi : is[k]? = some (own1I (.slice (some ⟨g, 0, none⟩) n cap) xs)) (h2 : 0 < cap) (hk : GK w0 (is.set k (own1I (.slice (some ⟨g, 0, none⟩) 0 cap) [])) N K ((d, .slice (some ⟨g, 0, none⟩) 0 cap) :: e)) : GO w0 is N o e Q K := by
  subst hz
  intro w ac M F
  obtain ⟨S, hS, hp, hset⟩ := mem_set M hi
  have hq : Own1 _ _ w S := hp
  have hq2 := own1_cut hq
  refine go_val (v := .slice (some ⟨g, 0, none⟩) 0 cap) (w' := w) hd hN F ?_ fun ac F => hk w ac (hset w _ ⟨rfl, rfl, rfl, Nat.le_refl _, fun k _ _ => rfl⟩ ⟨hq2.1, fun q e => .inl (hq2.2 q e)⟩) F
  intro ρ F; have hx := F _ _ hx; have hy := F _ _ hy
  have hi : (Try.prog.info? 2).map (·.size) = some 1 := by kernel_rfl
  obtain ⟨inf, i1, i2⟩ := Option.map_eq_some_iff.1 hi
  simp [execOp, hop, hx, hy, Instr.sliceAt, Instr.slice, run_underlying ht, Instr.sliceBounds, Instr.sliceBound, asIntOf, Sem.run_bind, Sem.run_pure, sizeOf, typeInfo, i1, i2]
  intro _; rfl
theorem qt_capNil {x : Operand} {t : TypeId} (hop : o.op = .call { callee := .builtin .cap, args := #[x], argTypes := #[t] }) (hx : evo e x = some (.slice none 0 0)) (ht : Try.prog.underlying t = some (.slice 2)) : QV w0 is o e (.int .i64 0) := fun w ac M F => by
  have hx := F _ _ hx
  simp [execOp, hop, hx, resolve, invoke, builtin, Builtin.cap_, goInt, run_underlying ht, Sem.run_bind, Sem.run_pure]
theorem qt_nil0 {x y : Operand} {t : TypeId} (hop : o.op = .slice t x none (some y) none) (hx : evo e x = some (.slice none 0 0)) (hy : evo e y = some (.int .i64 0)) (ht : Try.prog.underlying t = some (.slice 2)) : QV w0 is o e (.slice none 0 0) := fun w ac M F => by
  have hx := F _ _ hx; have hy := F _ _ hy
  have hi : (Try.prog.info? 2).map (·.size) = some 1 := by kernel_rfl
  obtain ⟨inf, i1, i2⟩ := Option.map_eq_some_iff.1 hi
  simp [execOp, hop, hx, hy, Instr.sliceAt, Instr.slice, run_underlying ht, Instr.sliceBounds, Instr.sliceBound, asIntOf, Sem.run_bind, Sem.run_pure, sizeOf, typeInfo, i1, i2]
end


def catTo (rows : List (List Int)) (k : Nat) : List Int := (rows.take k).flatten
theorem catTo_end (rows : List (List Int)) : catTo rows rows.length = rows.flatten := by unfold catTo; rw [List.take_length]
theorem catTo_st {rows : List (List Int)} {k : Nat} (h : k < rows.length) : catTo rows k ++ row2 rows (k : Int) = catTo rows (k + 1) := by
  have e : rows.take (k + 1) = rows.take k ++ [rows[k]] := by rw [List.take_add_one, List.getElem?_eq_getElem h]; rfl
  unfold catTo row2
  rw [Int.toNat_natCast, List.getD_eq_getElem?_getD, List.getElem?_eq_getElem h, e, List.flatten_append, Option.getD_some, List.flatten_cons, List.flatten_nil, List.append_nil]
theorem catTo_len (rows : List (List Int)) : ∀ k, k ≤ rows.length → (catTo rows k).length = offR rows k := by
  intro k
  induction k with
  | zero => intro _; simp [catTo, offR]
  | succ k ih =>
    intro hk
    rw [← catTo_st (by omega), List.length_append, ih (by omega)]
    show _ = offR rows k + _
    simp [row2]
theorem offR_st (rows : List (List Int)) (k : Nat) : ((offR rows k : Nat) : Int) + ((row2 rows (k : Int)).length : Int) = ((offR rows (k + 1) : Nat) : Int) := by
  show _ = ((offR rows k + (rows.getD k []).length : Nat) : Int)
  simp only [row2, Int.toNat_natCast]; omega
theorem flat2 (x y : List Int) : [x, y].flatten = x ++ y := by simp

set_option maxHeartbeats 1000000 in
set_option maxRecDepth 100000 in
theorem growNil_any (w : World) (n : Nat) (hn : n ≤ 1000) :
    Calls Try.prog 106 #[.slice none 0 0, .int .i64 ((n : Int))] w (RetL w []) := by
  go_enter Try.func106, Try.ntmps106
  refine gc_enter (N := 27) rfl (look_cons (k := 0) rfl (look_cons (k := 1) rfl (look_nil _))) ?_
  refine gc_seq fun K1 hK1 => ?_
  refine gc_region ?_
  refine g_v (.free rfl) rfl rfl (qt_assign rfl rfl) ?_
  refine g_nil ?_
  refine gk_then (hK1 _ _ ?_)
  refine gc_seq fun K2 hK2 => ?_
  refine gc_seq fun K3 hK3 => ?_
  refine gc_region ?_
  refine g_v (.free rfl) rfl rfl (qt_move rfl rfl) ?_
  refine g_v (.free rfl) rfl rfl (qt_lss rfl rfl rfl) ?_
  refine g_nil ?_
  refine gk_then (hK3 _ _ ?_)
  refine gc_cond rfl (fun hc0 => ?_) (fun hc0 => ?_)
  · try simp only [decide_eq_true_eq, decide_eq_false_iff_not, Bool.not_eq_true', Bool.not_eq_false', Bool.not_eq_eq_eq_not, Bool.not_true, Bool.not_false, ne_eq, Decidable.not_not, Classical.not_not] at hc0
    exfalso; omega
  · try simp only [decide_eq_true_eq, decide_eq_false_iff_not, Bool.not_eq_true', Bool.not_eq_false', Bool.not_eq_eq_eq_not, Bool.not_true, Bool.not_false, ne_eq, Decidable.not_not, Classical.not_not] at hc0
    refine gc_skip ?_
    refine gk_then (hK2 _ _ ?_)
    refine gc_seq fun K4 hK4 => ?_
    refine gc_seq fun K5 hK5 => ?_
    refine gc_region ?_
    refine g_v (.free rfl) rfl rfl (qt_move rfl rfl) ?_
    refine g_v (.free rfl) rfl rfl (qt_move rfl rfl) ?_
    refine g_v (.free rfl) rfl rfl (qt_capNil rfl rfl Try.underlying22) ?_
    refine g_v (.free rfl) rfl rfl (qt_move rfl rfl) ?_
    refine g_v (.free rfl) rfl rfl (qt_len rfl rfl ulE1 (fun w M => lenV_nil)) ?_
    refine g_v (.free rfl) rfl rfl (qt_sub rfl rfl rfl (by omega)) ?_
    refine g_v (.free rfl) rfl rfl (qt_sub rfl rfl rfl (by omega)) ?_
    refine g_v (.free rfl) rfl rfl (qt_assign rfl rfl) ?_
    refine g_nil ?_
    refine gk_then (hK5 _ _ ?_)
    refine gc_seq fun K6 hK6 => ?_
    refine gc_region ?_
    refine g_v (.free rfl) rfl rfl (qt_move rfl rfl) ?_
    refine g_v (.free rfl) rfl rfl (qt_gtr rfl rfl rfl) ?_
    refine g_nil ?_
    refine gk_then (hK6 _ _ ?_)
    refine gc_cond rfl (fun hc1 => ?_) (fun hc1 => ?_)
    · try simp only [decide_eq_true_eq, decide_eq_false_iff_not, Bool.not_eq_true', Bool.not_eq_false', Bool.not_eq_eq_eq_not, Bool.not_true, Bool.not_false, ne_eq, Decidable.not_not, Classical.not_not] at hc1
      refine gc_region ?_
      refine g_v (.free rfl) rfl rfl (qt_move rfl rfl) ?_
      refine g_v (.free rfl) rfl rfl (qt_move rfl rfl) ?_
      refine g_v (.free rfl) rfl rfl (qt_capNil rfl rfl Try.underlying22) ?_
      refine g_v (.free rfl) rfl rfl (qt_nil0 rfl rfl rfl Try.underlying22) ?_
      refine g_v (.free rfl) rfl rfl (qt_move rfl rfl) ?_
      refine g_op (.free rfl) fun K8 hK8 => ?_
      refine go_appendN (n := n) rfl rfl rfl Try.underlying22 Try.underlying3 rfl rfl (by omega) (by omega) (by omega) ?_
      intro B7 cap7 hcap7
      refine hK8 _ _ ?_
      refine g_v (.free rfl) rfl rfl (qt_move rfl rfl) ?_
      refine g_v (.free rfl) rfl rfl (qt_len rfl rfl ulE1 (fun w M => lenV_nil)) ?_
      refine g_op (.free rfl) fun K9 hK9 => ?_
      refine go_cut0 (k := 0) rfl rfl rfl rfl rfl rfl Try.underlying22 rfl (by omega) ?_
      refine hK9 _ _ ?_
      refine g_v (.free rfl) rfl rfl (qt_assign rfl rfl) ?_
      refine g_nil ?_
      refine gk_then (hK4 _ _ ?_)
      refine gc_seq fun K10 hK10 => ?_
      refine gc_region ?_
      refine g_v (.free rfl) rfl rfl (qt_move rfl rfl) ?_
      refine g_v (.free rfl) rfl rfl (qt_assign rfl rfl) ?_
      refine g_nil ?_
      refine gk_then (hK10 _ _ ?_)
      refine gc_ret ?_
      refine ret_1 rfl rfl  (fun w M => ?_)
      exact ⟨_, rfl, mem_own1 (n := 0) M rfl, M.1⟩
    · try simp only [decide_eq_true_eq, decide_eq_false_iff_not, Bool.not_eq_true', Bool.not_eq_false', Bool.not_eq_eq_eq_not, Bool.not_true, Bool.not_false, ne_eq, Decidable.not_not, Classical.not_not] at hc1
      refine gc_skip ?_
      refine gk_then (hK4 _ _ ?_)
      refine gc_seq fun K11 hK11 => ?_
      refine gc_region ?_
      refine g_v (.free rfl) rfl rfl (qt_move rfl rfl) ?_
      refine g_v (.free rfl) rfl rfl (qt_assign rfl rfl) ?_
      refine g_nil ?_
      refine gk_then (hK11 _ _ ?_)
      refine gc_ret ?_
      refine ret_1 rfl rfl  (fun w M => ?_)
      exact ⟨_, rfl, Sl.nil _ _, M.1⟩

set_option maxHeartbeats 1000000 in
set_option maxRecDepth 100000 in
theorem concat_any (w : World) (v : Value) (rows : List (List Int)) (h : Rd2 w v rows) (hb : offR rows rows.length ≤ 1000) :
    Calls Try.prog 48 #[v] w (RetL w rows.flatten) := by
  obtain ⟨va, vc, rfl⟩ := rd2_form h
  have hrl := rd2_len h
  go_enter Try.func48, Try.ntmps48
  refine gc_enter (N := 36) rfl (look_cons (k := 0) rfl (look_nil _)) ?_
  refine gc_seq fun K1 hK1 => ?_
  refine gc_region ?_
  refine g_v (.free rfl) rfl rfl (qt_assign rfl rfl) ?_
  refine g_nil ?_
  refine gk_then (hK1 _ _ ?_)
  refine gc_seq fun K2 hK2 => ?_
  refine gc_region ?_
  refine g_v (.free rfl) rfl rfl (qt_assign rfl rfl) ?_
  refine g_nil ?_
  refine gk_then (hK2 _ _ ?_)
  refine gc_seq fun K3 hK3 => ?_
  refine gc_seq fun K4 hK4 => ?_
  refine gc_region ?_
  refine g_v (.free rfl) rfl rfl (qt_move rfl rfl) ?_
  refine g_v (.free rfl) rfl rfl (qt_len rfl rfl ulE2 (fun w M => lenV_rd2 h)) ?_
  refine g_v (.free rfl) rfl rfl (qt_move rfl rfl) ?_
  refine g_nil ?_
  refine gk_then (hK4 _ _ ?_)
  refine gc_block ?_
  try simp only [List.nil_append, List.cons_append, List.append_assoc, List.set_cons_succ, List.set_cons_zero]
  refine gc_loop ([(0, _), (2, _), (9, _), (10, _)] : Env) (fun s : Nat => (fun (k : Nat) => ([(3, .int .i64 ((offR rows k : Nat) : Int)), (11, .int .i64 (k : Int))] : Env)) s) (fun s : Nat => (fun (k : Nat) => ([] : List (Nat × Itm))) s) (fun s : Nat => (fun (k : Nat) => k ≤ rows.length) s) (fun s : Nat => (fun (k : Nat) => rows.length - k) s) (0) (sub_cons rfl (sub_cons rfl (sub_cons rfl (sub_cons rfl (sub_cons rfl (sub_cons rfl sub_nil)))))) rfl (Nat.zero_le _) ?_
  rintro k hinv KL5 hKL5
  simp only [updL, List.foldl_cons, List.foldl_nil, List.set_cons_succ, List.set_cons_zero, List.cons_append, List.nil_append] at hinv hKL5 ⊢
  have hk := hinv
  refine gc_seq fun K6 hK6 => ?_
  refine gc_region ?_
  refine g_v (.free rfl) rfl rfl (qt_lss rfl rfl rfl) ?_
  refine g_nil ?_
  refine gk_then (hK6 _ _ ?_)
  refine gc_seq fun K7 hK7 => ?_
  refine gc_cond rfl (fun hc0 => ?_) (fun hc0 => ?_)
  · try simp only [decide_eq_true_eq, decide_eq_false_iff_not, Bool.not_eq_true', Bool.not_eq_false', Bool.not_eq_eq_eq_not, Bool.not_true, Bool.not_false, ne_eq, Decidable.not_not, Classical.not_not] at hc0
    refine gc_skip ?_
    refine gk_then (hK7 _ _ ?_)
    refine gc_seq fun K8 hK8 => ?_
    refine gc_block ?_
    refine gc_seq fun K9 hK9 => ?_
    refine gc_region ?_
    refine g_v (.free rfl) rfl rfl (qt_index rfl rfl rfl ulE2 szE2 (fun w M => lenA_rd2 h) (by omega) (by omega)) ?_
    refine g_load2 (.free rfl) rfl rfl rfl rfl Try.underlying22 rfl h (by omega) (by omega) ?_
    intro ra10 rc10 hr10
    refine g_v (.free rfl) rfl rfl (qt_assign rfl rfl) ?_
    refine g_nil ?_
    refine gk_then (hK9 _ _ ?_)
    refine gc_seq fun K11 hK11 => ?_
    have ho := offR_mono rows (k + 1) rows.length (by omega); have hs := offR_st rows k
    refine gc_region ?_
    refine g_v (.free rfl) rfl rfl (qt_move rfl rfl) ?_
    refine g_v (.free rfl) rfl rfl (qt_move rfl rfl) ?_
    refine g_v (.free rfl) rfl rfl (qt_len rfl rfl ulE1 (fun w M => lenV_rd hr10)) ?_
    refine g_v (.free rfl) rfl rfl (qt_add rfl rfl rfl (by omega)) ?_
    refine g_v (.free rfl) rfl rfl (qt_assign rfl rfl) ?_
    refine g_nil ?_
    refine gk_then (hK11 _ _ ?_)
    refine gc_seq fun K12 hK12 => ?_
    refine gc_region ?_
    refine g_v (.free rfl) rfl rfl (qt_move rfl rfl) ?_
    refine g_v (.free rfl) rfl rfl (qt_lss rfl rfl rfl) ?_
    refine g_nil ?_
    refine gk_then (hK12 _ _ ?_)
    refine gc_cond rfl (fun hc1 => ?_) (fun hc1 => ?_)
    · try simp only [decide_eq_true_eq, decide_eq_false_iff_not, Bool.not_eq_true', Bool.not_eq_false', Bool.not_eq_eq_eq_not, Bool.not_true, Bool.not_false, ne_eq, Decidable.not_not, Classical.not_not] at hc1
      exfalso; omega
    · try simp only [decide_eq_true_eq, decide_eq_false_iff_not, Bool.not_eq_true', Bool.not_eq_false', Bool.not_eq_eq_eq_not, Bool.not_true, Bool.not_false, ne_eq, Decidable.not_not, Classical.not_not] at hc1
      refine gc_skip ?_
      refine gk_block ?_
      refine gk_then (hK8 _ _ ?_)
      refine gc_region ?_
      refine g_v (.free rfl) rfl rfl (qt_add rfl rfl rfl (by omega)) ?_
      refine g_v (.free rfl) rfl rfl (qt_move rfl rfl) ?_
      refine g_nil ?_
      rw [offR_st]
      refine gk_then (gk_take 0 ?_)
      refine gk_sub ?hs_13 (hKL5 (k + 1) ?hi_13 ?hm_13)
      case hs_13 => exact (sub_cons rfl (sub_cons rfl (sub_cons rfl (sub_cons rfl (sub_cons rfl (sub_cons rfl sub_nil))))))
      case hi_13 => omega
      case hm_13 => omega
  · try simp only [decide_eq_true_eq, decide_eq_false_iff_not, Bool.not_eq_true', Bool.not_eq_false', Bool.not_eq_eq_eq_not, Bool.not_true, Bool.not_false, ne_eq, Decidable.not_not, Classical.not_not] at hc0
    refine gc_exit ?_
    refine gk_then_exit ?_
    refine gk_then_exit ?_
    refine gk_block_hit ?_
    refine gk_then (hK3 _ _ ?_)
    refine gc_seq fun K14 hK14 => ?_
    obtain rfl : k = rows.length := by omega
    refine gc_region ?_
    refine g_v (.free rfl) rfl rfl (qt_move rfl rfl) ?_
    refine g_op (.free rfl) fun K16 hK16 => ?_
    refine go_callL rfl rfl rfl Try.func106 rfl (by decide) rfl (fun w M => growNil_any w (_) (hb)) ?_
    intro va15 vc15
    refine hK16 _ _ ?_
    refine g_v (.free rfl) rfl rfl (qt_assign rfl rfl) ?_
    refine g_nil ?_
    refine gk_then (hK14 _ _ ?_)
    refine gc_seq fun K17 hK17 => ?_
    refine gc_seq fun K18 hK18 => ?_
    refine gc_region ?_
    refine g_v (.free rfl) rfl rfl (qt_move rfl rfl) ?_
    refine g_v (.free rfl) rfl rfl (qt_len rfl rfl ulE2 (fun w M => lenV_rd2 h)) ?_
    refine g_v (.free rfl) rfl rfl (qt_move rfl rfl) ?_
    refine g_nil ?_
    refine gk_then (hK18 _ _ ?_)
    refine gc_block ?_
    try simp only [List.nil_append, List.cons_append, List.append_assoc, List.set_cons_succ, List.set_cons_zero]
    refine gc_loop ([(0, _), (2, _), (3, _), (9, _), (10, _), (11, _), (12, _), (25, _), (26, _)] : Env) (fun s : Nat × (Option Addr) × Nat => (fun (k : Nat) (a : Option Addr) (q : Nat) => ([(6, .slice a (catTo rows k).length q), (27, .int .i64 (k : Int))] : Env)) s.1 s.2.1 s.2.2) (fun s : Nat × (Option Addr) × Nat => (fun (k : Nat) (a : Option Addr) (q : Nat) => ([(0, own1I (.slice a (catTo rows k).length q) (catTo rows k))] : List (Nat × Itm))) s.1 s.2.1 s.2.2) (fun s : Nat × (Option Addr) × Nat => (fun (k : Nat) (a : Option Addr) (q : Nat) => k ≤ rows.length) s.1 s.2.1 s.2.2) (fun s : Nat × (Option Addr) × Nat => (fun (k : Nat) (a : Option Addr) (q : Nat) => rows.length - k) s.1 s.2.1 s.2.2) (0, _, _) (sub_cons rfl (sub_cons rfl (sub_cons rfl (sub_cons rfl (sub_cons rfl (sub_cons rfl (sub_cons rfl (sub_cons rfl (sub_cons rfl (sub_cons rfl (sub_cons rfl sub_nil))))))))))) rfl (Nat.zero_le _) ?_
    rintro ⟨k, a, q⟩ hinv KL19 hKL19
    simp only [updL, List.foldl_cons, List.foldl_nil, List.set_cons_succ, List.set_cons_zero, List.cons_append, List.nil_append] at hinv hKL19 ⊢
    have hk := hinv
    have hcl := catTo_len rows k hk
    refine gc_seq fun K20 hK20 => ?_
    refine gc_region ?_
    refine g_v (.free rfl) rfl rfl (qt_lss rfl rfl rfl) ?_
    refine g_nil ?_
    refine gk_then (hK20 _ _ ?_)
    refine gc_seq fun K21 hK21 => ?_
    refine gc_cond rfl (fun hc2 => ?_) (fun hc2 => ?_)
    · try simp only [decide_eq_true_eq, decide_eq_false_iff_not, Bool.not_eq_true', Bool.not_eq_false', Bool.not_eq_eq_eq_not, Bool.not_true, Bool.not_false, ne_eq, Decidable.not_not, Classical.not_not] at hc2
      refine gc_skip ?_
      refine gk_then (hK21 _ _ ?_)
      refine gc_seq fun K22 hK22 => ?_
      refine gc_block ?_
      refine gc_seq fun K23 hK23 => ?_
      refine gc_region ?_
      refine g_v (.free rfl) rfl rfl (qt_index rfl rfl rfl ulE2 szE2 (fun w M => lenA_rd2 h) (by omega) (by omega)) ?_
      refine g_load2 (.free rfl) rfl rfl rfl rfl Try.underlying22 rfl h (by omega) (by omega) ?_
      intro ra24 rc24 hr24
      refine g_v (.free rfl) rfl rfl (qt_assign rfl rfl) ?_
      refine g_nil ?_
      refine gk_then (hK23 _ _ ?_)
      have ho := offR_mono rows (k + 1) rows.length (by omega); have hs := offR_st rows k
      refine gc_region ?_
      refine g_v (.free rfl) rfl rfl (qt_move rfl rfl) ?_
      refine g_v (.free rfl) rfl rfl (qt_move rfl rfl) ?_
      refine g_op (.free rfl) fun K26 hK26 => ?_
      refine go_appendA (n := 0) rfl rfl rfl Try.underlying22 rfl rfl rfl (fun w M => mem_rd M hr24) (by first | simp; omega | omega) ?_
      intro va25 vc25
      refine hK26 _ _ ?_
      refine g_v (.free rfl) rfl rfl (qt_assign rfl rfl) ?_
      refine g_nil ?_
      refine gk_block ?_
      refine gk_then (hK22 _ _ ?_)
      refine gc_region ?_
      refine g_v (.free rfl) rfl rfl (qt_add rfl rfl rfl (by omega)) ?_
      refine g_v (.free rfl) rfl rfl (qt_move rfl rfl) ?_
      refine g_nil ?_
      simp only [catTo_st (show k < rows.length by omega)]
      refine gk_then (gk_take 1 ?_)
      refine gk_sub ?hs_27 (hKL19 (k + 1, _, _) ?hi_27 ?hm_27)
      case hs_27 => exact (sub_cons rfl (sub_cons rfl (sub_cons rfl (sub_cons rfl (sub_cons rfl (sub_cons rfl (sub_cons rfl (sub_cons rfl (sub_cons rfl (sub_cons rfl (sub_cons rfl sub_nil)))))))))))
      case hi_27 => omega
      case hm_27 => omega
    · try simp only [decide_eq_true_eq, decide_eq_false_iff_not, Bool.not_eq_true', Bool.not_eq_false', Bool.not_eq_eq_eq_not, Bool.not_true, Bool.not_false, ne_eq, Decidable.not_not, Classical.not_not] at hc2
      refine gc_exit ?_
      refine gk_then_exit ?_
      refine gk_then_exit ?_
      refine gk_block_hit ?_
      refine gk_then (hK17 _ _ ?_)
      refine gc_seq fun K28 hK28 => ?_
      refine gc_region ?_
      refine g_v (.free rfl) rfl rfl (qt_move rfl rfl) ?_
      refine g_v (.free rfl) rfl rfl (qt_assign rfl rfl) ?_
      refine g_nil ?_
      refine gk_then (hK28 _ _ ?_)
      refine gc_ret ?_
      refine ret_1 rfl rfl  (fun w M => ?_)
      obtain rfl : k = rows.length := by omega
      rw [← catTo_end rows]; exact ⟨_, rfl, mem_own1 (n := 0) M rfl, M.1⟩

end Go.Proofs.Ytpppoipaabofgab
