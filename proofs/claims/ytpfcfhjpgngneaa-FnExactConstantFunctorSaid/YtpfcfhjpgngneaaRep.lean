
/- Lists of one number many times: the program's slices.Repeat. -/
import Derived.Laws.CopyRow
import Derived.Laws.CopyOwn
import Derived.Test.YtpfcfhjpgngneaaShort
import Derived.Test.YtpfcfhjpgngneaaShelf
set_option linter.unusedSimpArgs false
set_option linter.unusedVariables false
set_option linter.unusedSectionVars false
namespace Go.Proofs.Ytpfcfhjpgngneaa
open Go.RowKit

/-- What lies at the places of a list of one's own. -/
theorem sl_seg {w : World} {base g cap n : Nat} {xs : List Int} (h : Sl w base (.slice (some ⟨g, 0, none⟩) n cap) xs) {cs : List Int} {m : Nat} (hc : cs = xs.take m) {j : Nat} {v : Int} (hj : cs[j]? = some v) :
    w.cell? ((⟨g, 0, none⟩ : Addr).add j) = some (.int .i64 v) := by
  subst hc
  have hl : j < xs.length := by
    have := (List.getElem?_eq_some_iff.1 hj).1
    rw [List.length_take] at this; omega
  have hx : xs[j]? = some v := by
    rw [List.getElem?_take] at hj
    split at hj
    · exact hj
    · cases hj
  have := sl_cell h hl
  rw [List.getD_eq_getElem?_getD, hx] at this
  simp only [Addr.add]
  split
  · rename_i h0; subst h0; exact this
  · simpa using this

section
variable {w0 : World} {is : List Itm} {ops : Array Oper} {Q : Exit → Act → World → Prop} {o : Oper} {rest : List Oper} {N : Nat} {e : Env} {v : Value} {d : Nat} {K : Act → World → Prop}
theorem qt_convU {x : Operand} {s t : TypeId} {a : Int} (hop : o.op = .convert s t x) (hx : evo e x = some (.int .i64 a)) (hs : Try.prog.underlying s = some (.int .i64)) (ht : Try.prog.underlying t = some (.int .u64)) (h : 0 ≤ a ∧ a ≤ 9223372036854775807) : QV w0 is o e (.int .u64 a) :=
  fun w ac M F => by
    have hx := F _ _ hx
    simp [execOp, hop, hx, convert, run_underlying hs, run_underlying ht, Conv.intToInt]; rw [IntKind.wrap_u64]; omega
theorem qt_convS {x : Operand} {s t : TypeId} {a : Int} (hop : o.op = .convert s t x) (hx : evo e x = some (.int .u64 a)) (hs : Try.prog.underlying s = some (.int .u64)) (ht : Try.prog.underlying t = some (.int .i64)) (h : 0 ≤ a ∧ a ≤ 9223372036854775807) : QV w0 is o e (.int .i64 a) :=
  fun w ac M F => by
    have hx := F _ _ hx
    simp [execOp, hop, hx, convert, run_underlying hs, run_underlying ht, Conv.intToInt]; exact IntWalk.i64_in _ (by omega)
theorem qt_from {x y : Operand} {t : TypeId} {g n L cap : Nat} (hop : o.op = .slice t x (some y) none none) (hx : evo e x = some (.slice (some ⟨g, 0, none⟩) L cap)) (hy : evo e y = some (.int .i64 (n : Int))) (ht : Try.prog.underlying t = some (.slice 2)) (h1 : n ≤ L) (h2 : n < cap) (h3 : L ≤ cap) :
    QV w0 is o e (.slice (some ⟨g, n, none⟩) (L - n) (cap - n)) :=
  fun w ac M F => by
    have hx := F _ _ hx; have hy := F _ _ hy
    have hi : (Try.prog.info? 2).map (·.size) = some 1 := by kernel_rfl
    obtain ⟨inf, i1, i2⟩ := Option.map_eq_some_iff.1 hi
    simp [execOp, hop, hx, hy, Instr.sliceAt, Instr.slice, run_underlying ht, Instr.sliceBounds, Instr.sliceBound, asIntOf, Sem.run_bind, Sem.run_pure, sizeOf, typeInfo, i1, i2]
    rw [if_pos h1, if_neg (by omega)]
    have : (⟨g, 0, none⟩ : Addr).add n = ⟨g, n, none⟩ := by
      simp only [Addr.add]; split
      · rename_i h0; subst h0; rfl
      · simp
    rw [this]
theorem qt_upto {x y : Operand} {t : TypeId} {g n L cap : Nat} (hop : o.op = .slice t x none (some y) none) (hx : evo e x = some (.slice (some ⟨g, 0, none⟩) L cap)) (hy : evo e y = some (.int .i64 (n : Int))) (ht : Try.prog.underlying t = some (.slice 2)) (h1 : n ≤ L) (h2 : 0 < cap) (h3 : L ≤ cap) :
    QV w0 is o e (.slice (some ⟨g, 0, none⟩) n cap) :=
  fun w ac M F => by
    have hx := F _ _ hx; have hy := F _ _ hy
    have hi : (Try.prog.info? 2).map (·.size) = some 1 := by kernel_rfl
    obtain ⟨inf, i1, i2⟩ := Option.map_eq_some_iff.1 hi
    simp [execOp, hop, hx, hy, Instr.sliceAt, Instr.slice, run_underlying ht, Instr.sliceBounds, Instr.sliceBound, asIntOf, Sem.run_bind, Sem.run_pure, sizeOf, typeInfo, i1, i2]
    rw [if_pos (by omega), if_neg (by omega)]; rfl
/-- Numbers are copied into a list of one's own. -/
theorem go_copyI {x y : Operand} {t1 t2 : TypeId} {k g n L L0 cap cap1 sl sc : Nat} {sa : Addr} {xs cs : List Int} (hd : o.dst = some d) (hN : Nat.blt d N = true)
    (hop : o.op = .call { callee := .builtin .copy, args := #[x, y], argTypes := #[t1, t2] }) (ht : Try.prog.underlying t1 = some (.slice 2))
    (hx : evo e x = some (.slice (some ⟨g, n, none⟩) L cap1)) (hy : evo e y = some (.slice (some sa) sl sc))
    (hi : is[k]? = some (own1I (.slice (some ⟨g, 0, none⟩) L0 cap) xs)) (hL : xs.length = L0)
    (hs : ∀ w, Mem w0 w is → ∀ (j : Nat) (v : Int), cs[j]? = some v → w.cell? (sa.add j) = some (.int .i64 v))
    (hn : cs.length = Nat.min sl L) (hf : n + cs.length ≤ L0)
    (hk : GK w0 (is.set k (own1I (.slice (some ⟨g, 0, none⟩) L0 cap) (splice xs n cs))) N K ((d, .int .i64 (cs.length : Nat)) :: e)) : GO w0 is N o e Q K := by
  intro w ac M F
  obtain ⟨S, hS, hp, hset⟩ := mem_set M hi
  have hp' : Own1 (.slice (some ⟨g, 0, none⟩) L0 cap) xs w S := hp
  obtain ⟨⟨⟨hlen, hor⟩, hl⟩, hblk⟩ := hp'
  rcases hor with ⟨hv, _⟩ | ⟨g', cap', cur, hv, hb, hg, hnc, hcm, hcs, htk⟩
  · cases hv
  · simp only [Value.slice.injEq, Option.some.injEq, Addr.mk.injEq] at hv
    obtain ⟨⟨rfl, _⟩, rfl, rfl⟩ := hv
    have hls : (splice xs n cs).length = xs.length := length_splice _ _ _ (by omega)
    have hcl : (cs.map (Value.int .i64)).length = cs.length := by simp
    have hfit : n + (cs.map (Value.int .i64)).length ≤ cur.size := by rw [hcl]; omega
    have hz : (Try.prog.info? 2).map (·.size) = some 1 := by kernel_rfl
    have hrun := run_copy_row (P := Try.prog) w t1 t2 o.type 2 g n L cap1 sa sl sc cur 2 (cs.map (Value.int .i64)) ht hz hg (by rw [hcl]; exact hn)
      (fun j v hj => by
        rw [List.getElem?_map, Option.map_eq_some_iff] at hj
        obtain ⟨u, hu, rfl⟩ := hj
        exact hs w M j u hu) hfit (fun v hv => by
        obtain ⟨u, _, rfl⟩ := List.mem_map.1 hv; rfl)
    have hnew : Sl (w.setRow g (cur.toList.take n ++ cs.map (Value.int .i64) ++ cur.toList.drop (n + (cs.map (Value.int .i64)).length)).toArray) 0 (.slice (some ⟨g, 0, none⟩) xs.length cap) (splice xs n cs) := by
      refine ⟨⟨by rw [List.length_map]; omega, .inr ⟨g, cap, _, by rw [hls], Nat.zero_le _, setRow_heap w g _ _ _ _ hg, by rw [hls]; exact hnc, hcm, ?_, ?_⟩⟩, by rw [hls]; exact hl⟩
      · simp; omega
      · obtain ⟨R, hR⟩ : ∃ R, cur.toList = xs.map (Value.int .i64) ++ R := ⟨cur.toList.drop (xs.length * 1), by rw [← htk, List.take_append_drop]⟩
        have h1 : (xs.map (Value.int .i64) ++ R).take n = (xs.take n).map (Value.int .i64) := by rw [List.take_append_of_le_length (by simp; omega), List.map_take]
        have h2 : (xs.map (Value.int .i64) ++ R).drop (n + cs.length) = (xs.drop (n + cs.length)).map (Value.int .i64) ++ R := by rw [List.drop_append_of_le_length (by simp; omega), List.map_drop]
        rw [hcl, hls, hR, h1, h2]
        simp only [splice, List.map_append, ← List.append_assoc]
        exact List.take_left' (by simp; omega)
    refine go_val (v := .int .i64 (cs.length : Nat)) (w' := w.setRow g (cur.toList.take n ++ cs.map (Value.int .i64) ++ cur.toList.drop (n + (cs.map (Value.int .i64)).length)).toArray) hd hN F ?_ fun ac F => hk _ ac (hset _ _ ⟨rfl, rfl, rfl, by simp [World.setRow], fun q hq hs => setRow_other w g q _ (fun h => hs (by rw [h]; exact hblk g rfl))⟩ ⟨hnew, fun q hq => .inl (hblk q hq)⟩) F
    intro ρ F; have hx := F _ _ hx; have hy := F _ _ hy
    simp [execOp, hop, resolve, invoke, builtin, hx, hy, hrun, Result.andThen_ok, goInt]
end

theorem splice_rep (y z : Int) (n m c : Nat) (h : m + c ≤ n) : splice (List.replicate m y ++ List.replicate (n - m) z) m (List.replicate c y) = List.replicate (m + c) y ++ List.replicate (n - (m + c)) z := by
  have h1 : (List.replicate m y ++ List.replicate (n - m) z).take m = List.replicate m y := List.take_left' (by simp)
  have h2 : (List.replicate m y ++ List.replicate (n - m) z).drop (m + (List.replicate c y).length) = List.replicate (n - (m + c)) z := by
    rw [List.drop_append, List.drop_eq_nil_of_le (by simp)]
    simp only [List.length_replicate, List.nil_append, List.drop_replicate]
    congr 1; omega
  unfold splice
  rw [h1, h2, ← List.append_assoc, List.replicate_append_replicate]
theorem rep_take (y z : Int) (n m c : Nat) (h : c ≤ m) : List.replicate c y = (List.replicate m y ++ List.replicate (n - m) z).take c := by
  rw [List.take_append_of_le_length (by simpa using h), List.take_replicate]; congr 1; omega

set_option maxHeartbeats 1000000 in
set_option maxRecDepth 100000 in
theorem slRepeat_any (w : World) (v : Value) (y : Int) (n : Nat) (hv : Rd w v [y]) (hn : n ≤ 100000) :
    Calls Try.prog 72 #[v, .int .i64 (n : Int)] w (RetL w (List.replicate n y)) := by
  obtain ⟨va, vc, rfl⟩ := rd_form hv
  obtain ⟨ad, rfl, hcell⟩ : ∃ ad, va = some ad ∧ ∀ w2 : World, Mem w w2 [] → w2.cell? (ad.add 0) = some (.int .i64 y) := by
    have hv' := hv
    obtain ⟨a1, c1, h1, _, hc1⟩ := hv'
    obtain ⟨b, off, rfl, _, _⟩ := hc1 0 (by simp)
    simp only [Value.slice.injEq] at h1
    obtain ⟨rfl, _, _⟩ := h1
    refine ⟨_, rfl, fun w2 M => ?_⟩
    obtain ⟨a2, c2, h2, _, hc2⟩ := mem_rd M hv
    obtain ⟨b2, off2, rfl, _, hcc⟩ := hc2 0 (by simp)
    simp only [Value.slice.injEq, Option.some.injEq] at h2
    rw [h2.1]
    have := hcc 0 (by simp)
    simpa [Addr.add] using this
  have hz1 : 1 * n / 18446744073709551616 = 0 := by omega
  have hz2 : 1 * n % 18446744073709551616 = n := by omega
  go_enter Try.func72, Try.ntmps72
  refine gc_enter (N := 48) rfl (look_cons (k := 0) rfl (look_cons (k := 1) rfl (look_nil _))) ?_
  refine gc_seq fun K1 hK1 => ?_
  refine gc_region ?_
  refine g_v (.free rfl) rfl rfl (qt_assign rfl rfl) ?_
  refine g_nil ?_
  refine gk_then (hK1 _ _ ?_)
  refine gc_seq fun K2 hK2 => ?_
  refine gc_seq fun K3 hK3 => ?_
  refine gc_region ?_
  refine g_v (.free rfl) rfl rfl (qt_move rfl rfl) ?_
  refine g_v (.free rfl) rfl rfl (qt_lss_f rfl rfl rfl (by omega)) ?_
  refine g_nil ?_
  refine gk_then (hK3 _ _ ?_)
  refine gc_cond rfl (fun hc0 => by cases hc0) (fun _ => ?_)
  refine gc_skip ?_
  refine gk_then (hK2 _ _ ?_)
  refine gc_seq fun K4 hK4 => ?_
  refine gc_region ?_
  refine g_v (.free rfl) rfl rfl (qt_move rfl rfl) ?_
  refine g_v (.free rfl) rfl rfl (qt_len rfl rfl ulE1 (fun w M => lenV_rd hv)) ?_
  refine g_v (.free rfl) rfl rfl (qt_convU (a := ((1 : Nat) : Int)) rfl rfl Try.underlying2 Try.underlying129 (by omega)) ?_
  refine g_v (.free rfl) rfl rfl (qt_move rfl rfl) ?_
  refine g_v (.free rfl) rfl rfl (qt_convU (a := (n : Int)) rfl rfl Try.underlying2 Try.underlying129 (by omega)) ?_
  refine g_q (.free rfl) rfl rfl (qt_call (v := .tuple [.int .u64 ((0 : Nat) : Int), .int .u64 (n : Int)].toArray) rfl Try.func111 rfl (by decide) rfl (fun w M => (Try.bits_Mul 1 n (by omega) (by omega) w).mono fun e w' h => ⟨by rw [h.1, hz1, hz2], by rw [h.2]; exact Below.refl _ _⟩)) ?_
  refine g_v (.free rfl) rfl rfl (qt_move rfl rfl) ?_
  refine g_v (.free rfl) rfl rfl (qt_extract rfl rfl rfl) ?_
  refine g_v (.free rfl) rfl rfl (qt_extract rfl rfl rfl) ?_
  refine g_v (.free rfl) rfl rfl (qt_assign rfl rfl) ?_
  refine g_v (.free rfl) rfl rfl (qt_assign rfl rfl) ?_
  refine g_nil ?_
  refine gk_then (hK4 _ _ ?_)
  refine gc_seq fun K5 hK5 => ?_
  refine gc_seq fun K6 hK6 => ?_
  refine gc_region ?_
  refine g_v (.free rfl) rfl rfl (qt_move rfl rfl) ?_
  refine g_v (.free rfl) rfl rfl (qt_gtr_f rfl rfl rfl (by omega)) ?_
  refine g_v (.free rfl) rfl rfl (qt_move rfl rfl) ?_
  refine g_v (.held _ _ _ rfl rfl rfl) rfl rfl (qt_move rfl rfl) ?_
  refine g_v (.held _ _ _ rfl rfl rfl) rfl rfl (qt_gtr_f rfl rfl rfl (by omega)) ?_
  refine g_v (.free rfl) rfl rfl (qt_pick_f rfl rfl rfl) ?_
  refine g_nil ?_
  refine gk_then (hK6 _ _ ?_)
  refine gc_cond rfl (fun hc0 => by cases hc0) (fun _ => ?_)
  refine gc_skip ?_
  refine gk_then (hK5 _ _ ?_)
  refine gc_seq fun K7 hK7 => ?_
  refine gc_region ?_
  refine g_v (.free rfl) rfl rfl (qt_move rfl rfl) ?_
  refine g_v (.free rfl) rfl rfl (qt_convS (a := (n : Int)) rfl rfl Try.underlying129 Try.underlying2 (by omega)) ?_
  refine g_op (.free rfl) fun K8 hK8 => ?_
  refine go_make1 rfl rfl rfl ulE1 rfl rfl (by omega) fun B => ?_
  refine hK8 _ _ ?_
  refine g_v (.free rfl) rfl rfl (qt_assign rfl rfl) ?_
  refine g_nil ?_
  refine gk_then (hK7 _ _ ?_)
  simp only [List.nil_append, List.cons_append]
  refine gc_seq fun K9 hK9 => ?_
  refine gc_region ?_
  refine g_v (.free rfl) rfl rfl (qt_move rfl rfl) ?_
  refine g_v (.free rfl) rfl rfl (qt_move rfl rfl) ?_
  refine g_op (.free rfl) fun K10 hK10 => ?_
  refine go_copyI (k := 0) (n := 0) (cs := List.replicate (min 1 n) y) rfl rfl rfl ulE1 rfl rfl rfl (by simp) (fun w' M j u hj => ?_) List.length_replicate (by rw [List.length_replicate]; omega) ?_
  · obtain ⟨hj1, hj2⟩ := List.getElem?_eq_some_iff.1 hj
    rw [List.length_replicate] at hj1
    rw [List.getElem_replicate] at hj2
    have : min 1 n ≤ 1 := Nat.min_le_left _ _
    obtain rfl : j = 0 := by omega
    rw [← hj2]; exact hcell _ ⟨M.1, trivial⟩
  refine hK10 _ _ ?_
  refine g_v (.free rfl) rfl rfl (qt_assign rfl rfl) ?_
  refine g_nil ?_
  refine gk_then (hK9 _ _ ?_)
  have e0 : splice (List.replicate n (0 : Int)) 0 (List.replicate (min 1 n) y) = List.replicate (min 1 n) y ++ List.replicate (n - min 1 n) 0 := by
    have := splice_rep y 0 n 0 (min 1 n) (by have := Nat.min_le_right 1 n; simpa using this)
    simpa using this
  simp only [List.set_cons_zero, List.length_replicate, e0]
  refine gc_seq fun K11 hK11 => ?_
  refine gc_block ?_
  refine gc_loop ([(0, _), (1, _), (7, _)] : Env) (fun m : Nat => ([(8, .int .i64 (m : Int))] : Env)) (fun m : Nat => [(0, own1I (.slice (some ⟨B, 0, none⟩) n n) (List.replicate m y ++ List.replicate (n - m) 0))]) (fun m => m ≤ n ∧ (n = 0 ∨ 1 ≤ m)) (fun m => n - m) (min 1 n) (sub_cons rfl (sub_cons rfl (sub_cons rfl (sub_cons rfl sub_nil)))) rfl ⟨by omega, by omega⟩ ?_
  ·
    intro m hm KL hKL
    obtain ⟨hm1, hm2⟩ := hm
    simp only [updL, List.foldl_cons, List.foldl_nil, List.set_cons_succ, List.set_cons_zero, List.cons_append, List.nil_append] at hKL ⊢
    refine gc_seq fun K12 hK12 => ?_
    refine gc_seq fun K13 hK13 => ?_
    refine gc_region ?_
    refine g_v (.free rfl) rfl rfl (qt_move rfl rfl) ?_
    refine g_v (.free rfl) rfl rfl (qt_move rfl rfl) ?_
    refine g_v (.free rfl) rfl rfl (qt_len rfl rfl ulE1 (fun w M => ⟨_, _, rfl⟩)) ?_
    refine g_v (.free rfl) rfl rfl (qt_lss rfl rfl rfl) ?_
    refine g_nil ?_
    refine gk_then (hK13 _ _ ?_)
    refine gc_cond rfl (fun hc => ?_) (fun hc => ?_)
    · have hc : m < n := by simpa using hc
      refine gc_skip ?_
      refine gk_then (hK12 _ _ ?_)
      refine gc_block ?_
      refine ga_start [] (fun w M => mem_erase 0 M) ?_
      refine ga_v 0 rfl (by kernel_rfl) (by kernel_rfl) (by kernel_rfl) (.free rfl) rfl rfl (qt_move rfl rfl) (fun _ _ _ h => h) ?_
      refine ga_v 1 rfl (by kernel_rfl) (by kernel_rfl) (by kernel_rfl) (.free rfl) rfl rfl (qt_move rfl rfl) (fun _ _ _ h => h) ?_
      refine ga_v 2 rfl (by kernel_rfl) (by kernel_rfl) (by kernel_rfl) (.free rfl) rfl rfl (qt_move rfl rfl) (fun _ _ _ h => h) ?_
      refine ga_v 3 rfl (by kernel_rfl) (by kernel_rfl) (by kernel_rfl) (.free rfl) rfl rfl (qt_from rfl rfl rfl ulE1 (by omega) (by omega) (by omega)) (fun _ _ _ h => h) ?_
      refine ga_v 4 rfl (by kernel_rfl) (by kernel_rfl) (by kernel_rfl) (.free rfl) rfl rfl (qt_move rfl rfl) (fun _ _ _ h => h) ?_
      refine ga_v 5 rfl (by kernel_rfl) (by kernel_rfl) (by kernel_rfl) (.free rfl) rfl rfl (qt_move rfl rfl) (fun _ _ _ h => h) ?_
      refine ga_v 6 rfl (by kernel_rfl) (by kernel_rfl) (by kernel_rfl) (.free rfl) rfl rfl (qt_upto rfl rfl rfl ulE1 (by omega) (by omega) (by omega)) (fun _ _ _ h => h) ?_
      refine ga_op 7 (by kernel_rfl) rfl (.free rfl) fun K14 hK14 => ?_
      refine go_copyI (k := 0) (cs := List.replicate (min m (n - m)) y) rfl rfl rfl ulE1 rfl rfl rfl (by simp; omega) (fun w' M j u hj => ?_) List.length_replicate (by rw [List.length_replicate]; omega) ?_
      · exact sl_seg (mem_own1 M (n := 0) rfl) (rep_take y 0 n m (min m (n - m)) (by omega)) hj
      refine hK14 _ _ (fun w M => mem_erase 0 M) ?_
      refine ga_v 8 rfl (by kernel_rfl) (by kernel_rfl) (by kernel_rfl) (.free rfl) rfl rfl (qt_add rfl rfl rfl (by simp; omega)) (fun _ _ _ h => h) ?_
      refine ga_v 9 rfl (by kernel_rfl) (by kernel_rfl) (by kernel_rfl) (.free rfl) rfl rfl (qt_assign rfl rfl) (fun _ _ _ h => h) ?_
      refine ga_done (by kernel_rfl) ?_
      refine gk_block ?_
      simp only [List.set_cons_zero, List.length_replicate, splice_rep y 0 n m (min m (n - m)) (by omega)]
      refine gk_then ?_
      refine gk_sub (sub_cons rfl (sub_cons rfl (sub_cons rfl (sub_cons rfl sub_nil)))) (hKL (m + min m (n - m)) ⟨by omega, by omega⟩ (by omega))
    · have hc : ¬ m < n := by simpa using hc
      refine gc_exit ?_
      refine gk_then_exit ?_
      refine gk_then_exit ?_
      refine gk_block_hit ?_
      refine gk_then (hK11 _ _ ?_)
      refine gc_seq fun K15 hK15 => ?_
      refine gc_region ?_
      refine g_v (.free rfl) rfl rfl (qt_move rfl rfl) ?_
      refine g_v (.free rfl) rfl rfl (qt_assign rfl rfl) ?_
      refine g_nil ?_
      refine gk_then (hK15 _ _ ?_)
      refine gc_ret ?_
      refine ret_1 rfl rfl  (fun w M => ?_)
      obtain rfl : m = n := by omega
      have := mem_own1 M (n := 0) rfl
      simp only [Nat.sub_self, List.replicate_zero, List.append_nil] at this
      exact ⟨_, rfl, this, M.1⟩

theorem slRepeatW_any (w : World) (v : Value) (xs : List Int) (k : Int) (hv : Rd w v xs) (hx : xs = [at0 xs 0]) (hk : 0 ≤ k ∧ k ≤ 100000) :
    Calls Try.prog 72 #[v, .int .i64 k] w (RetL w (List.replicate k.toNat (at0 xs 0))) := by
  have := slRepeat_any w v (at0 xs 0) k.toNat (hx ▸ hv) (by omega)
  rwa [Int.toNat_of_nonneg hk.1] at this
end Go.Proofs.Ytpfcfhjpgngneaa
