
/- What Del, Del2 hold, one behind the other. -/
import Derived.Laws.CopyOwn
import Derived.Test.YtgkfampgofjkfaaFv
import Derived.Test.YtgkfampgofjkfaaRul7
import Derived.Test.YtgkfampgofjkfaaBij
import Derived.Test.YtgkfampgofjkfaaClo
set_option linter.unusedSimpArgs false
set_option linter.unusedVariables false
set_option linter.unusedSectionVars false
namespace Go.Proofs.Ytgkfampgofjkfaa
open Go.RowKit
section
section
variable {w0 : World} {is : List Itm} {ops : Array Oper} {Q : Exit → Act → World → Prop} {o : Oper} {rest : List Oper} {N : Frm} {k : Nat} {e : Env} {v : Value} {d : Nat} {K : Act → World → Prop} {f : FuncId} {fn : Func} {ags : Array Operand} {ts : Array TypeId} {vs : List Value}
/-- An own list that is not empty lies in a block of its own. -/
theorem gc_form1 {c : Code} {a : Option Addr} {L cap : Nat} {xs : List Int} (hi : is[k]? = some (own1I (.slice a L cap) xs)) (h0 : 0 < L) (hk : ∀ g, a = some ⟨g, 0, none⟩ → L ≤ cap → GC w0 is N c Q e) : GC w0 is N c Q e := by
  intro w ac M F
  obtain ⟨S, hS, hb⟩ := mem_get M hi
  have hb : Own1 (.slice a L cap) xs w S := hb
  rcases hb.1.1.2 with ⟨hv, _⟩ | ⟨g, cap', cur, hv, _, _, hle, _⟩
  · simp only [Value.slice.injEq] at hv
    omega
  · simp only [Value.slice.injEq] at hv
    obtain ⟨rfl, rfl, rfl⟩ := hv
    exact hk g rfl hle w ac M F
theorem qt_fromT {x y : Operand} {t : TypeId} {g n L cap : Nat} (hop : o.op = .slice t x (some y) none none) (hx : evo e x = some (.slice (some ⟨g, 0, none⟩) L cap)) (hy : evo e y = some (.int .i64 (n : Int))) (ht : Try.prog.underlying t = some (.slice 2)) (h1 : n ≤ L) (h2 : n < cap) :
    QV w0 is o e (.slice (some ⟨g, n, none⟩) (L - n) (cap - n)) :=
  fun w ac M F => by
    have hx := F _ _ hx; have hy := F _ _ hy
    have hi : (Try.prog.info? 2).map (·.size) = some 1 := by kernel_rfl
    obtain ⟨inf, i1, i2⟩ := Option.map_eq_some_iff.1 hi
    simp [execOp, hop, hx, hy, Instr.sliceAt, Instr.slice, run_underlying ht, Instr.sliceBounds, Instr.sliceBound, asIntOf, Sem.run_bind, Sem.run_pure, sizeOf, typeInfo, i1, i2]
    rw [if_pos h1, if_neg (by omega)]
    have : (⟨g, 0, none⟩ : Addr).add n = ⟨g, n, none⟩ := by
      simp only [Addr.add]; split
      · rename_i h0; subst h0; rfl
      · simp
    rw [this]
theorem go_valN {w w' : World} {a : Act} {v : Value} (hd : o.dst = none) (F : Fit N e a) (hrun : ∀ ρ : Operand → Value, (∀ x v, evo e x = some v → ρ x = v) → (execOp ρ o).run Try.prog w = .ok (.value v) w')
    (hk : ∀ a, Fit N e a → K a w') : o.wp Try.prog a w K Q := by
  unfold Oper.wp
  rw [hrun a.eval (fun x v hx => fit_eval F hx), Oper.upon_value, hd]
  exact hk _ F
theorem zero_cells (n : Nat) : (Builtin.zeroCells #[Value.int .i64 0] n).toList = (List.replicate n (0 : Int)).map (Value.int .i64) := by
  apply List.ext_getElem?
  intro j
  by_cases hj : j < n
  · simp [Builtin.zeroCells, hj, Nat.mod_one]
  · simp [Builtin.zeroCells, hj]
/-- The end of an own list is cleared. -/
theorem go_clearT {x : Operand} {t : TypeId} {g n L cap cap1 : Nat} {xs : List Int} (hd : o.dst = none) (hop : o.op = .call { callee := .builtin .clear, args := #[x], argTypes := #[t] }) (ht : Try.prog.underlying t = some (.slice 2))
    (hx : evo e x = some (.slice (some ⟨g, n, none⟩) (L - n) cap1)) (hi : is[k]? = some (own1I (.slice (some ⟨g, 0, none⟩) L cap) xs)) (hL : xs.length = L) (hn : n < L)
    (hk : GK w0 (is.set k (own1I (.slice (some ⟨g, 0, none⟩) L cap) (splice xs n (List.replicate (L - n) 0)))) N K e) : GO w0 is N o e Q K := by
  intro w ac M F
  obtain ⟨S, hS, hp, hset⟩ := mem_set M hi
  have hp' : Own1 (.slice (some ⟨g, 0, none⟩) L cap) xs w S := hp
  obtain ⟨⟨⟨hlen, hor⟩, hl⟩, hblk⟩ := hp'
  rcases hor with ⟨hv, _⟩ | ⟨g', cap', cur, hv, hb, hg, hnc, hcm, hcs, htk⟩
  · cases hv
  · simp only [Value.slice.injEq, Option.some.injEq, Addr.mk.injEq] at hv
    obtain ⟨⟨rfl, _⟩, rfl, rfl⟩ := hv
    obtain ⟨cs, hcs0⟩ : ∃ cs : List Int, cs = List.replicate (xs.length - n) 0 := ⟨_, rfl⟩
    rw [← hcs0] at hk
    have hcsl : cs.length = xs.length - n := by rw [hcs0, List.length_replicate]
    have hls : (splice xs n cs).length = xs.length := length_splice _ _ _ (by omega)
    have hcl : (cs.map (Value.int .i64)).length = cs.length := by simp
    have hfit : n + (cs.map (Value.int .i64)).length ≤ cur.size := by rw [hcl]; omega
    have hrun := run_storeCells_at (P := Try.prog) g n 2 (cs.map (Value.int .i64)) 0 cur w hg (by rw [hcl]; omega) (fun v hv => by obtain ⟨u, _, rfl⟩ := List.mem_map.1 hv; rfl)
    simp only [Nat.add_zero] at hrun
    have hnew : Sl (w.setRow g (cur.toList.take n ++ cs.map (Value.int .i64) ++ cur.toList.drop (n + (cs.map (Value.int .i64)).length)).toArray) 0 (.slice (some ⟨g, 0, none⟩) xs.length cap) (splice xs n cs) := by
      refine ⟨⟨by rw [List.length_map]; omega, .inr ⟨g, cap, _, by rw [hls], Nat.zero_le _, setRow_heap w g _ _ _ _ hg, by rw [hls]; exact hnc, hcm, ?_, ?_⟩⟩, by rw [hls]; exact hl⟩
      · simp; omega
      · obtain ⟨R, hR⟩ : ∃ R, cur.toList = xs.map (Value.int .i64) ++ R := ⟨cur.toList.drop (xs.length * 1), by rw [← htk, List.take_append_drop]⟩
        have h1 : (xs.map (Value.int .i64) ++ R).take n = (xs.take n).map (Value.int .i64) := by rw [List.take_append_of_le_length (by simp; omega), List.map_take]
        have h2 : (xs.map (Value.int .i64) ++ R).drop (n + cs.length) = (xs.drop (n + cs.length)).map (Value.int .i64) ++ R := by rw [List.drop_append_of_le_length (by simp; omega), List.map_drop]
        rw [hcl, hls, hR, h1, h2]
        simp only [splice, List.map_append, ← List.append_assoc]
        exact List.take_left' (by simp; omega)
    refine go_valN (v := .tuple #[]) (w' := w.setRow g (cur.toList.take n ++ cs.map (Value.int .i64) ++ cur.toList.drop (n + (cs.map (Value.int .i64)).length)).toArray) hd F ?_ fun a F => hk _ a (hset _ _ ⟨rfl, rfl, rfl, by simp [World.setRow], fun q hq hs => setRow_other w g q _ (fun e => hs (by rw [e]; exact hblk g rfl))⟩ ⟨hnew, fun q e => .inl (hblk q e)⟩) F
    intro ρ F; have hx := F _ _ hx
    obtain ⟨i, hi, hz, hs, hb⟩ := info_parts info64
    obtain ⟨m, hm⟩ : ∃ m, xs.length - n = m + 1 := ⟨xs.length - n - 1, by omega⟩
    have hzc : (Builtin.zeroCells #[Value.int .i64 0] (m + 1)).toList = cs.map (Value.int .i64) := by rw [zero_cells, hcs0, hm]
    rw [hm] at hx
    simp [execOp, hop, resolve, invoke, builtin, hx, Builtin.clear_, run_underlying ht, zeroValue, typeInfo, hi, hz, Value.cells, hzc, hrun, Sem.run_bind, Sem.run_pure, Result.andThen_ok]
theorem own1_cutJ {g n j cap : Nat} {xs : List Int} {w : World} {S : Nat → Prop} (h : Own1 (.slice (some ⟨g, 0, none⟩) n cap) xs w S) (hj : j ≤ n) (hn : xs.length = n) : Own1 (.slice (some ⟨g, 0, none⟩) j cap) (xs.take j) w S := by
  subst hn
  obtain ⟨⟨⟨hl, hor⟩, hm⟩, hq⟩ := h
  have e : (xs.take j).length = j := by rw [List.length_take]; omega
  refine ⟨⟨⟨by simp, .inr ?_⟩, by omega⟩, fun q e => hq q e⟩
  rcases hor with ⟨hv, _⟩ | ⟨g', cap', cur, hv, hb, hg, hnc, hcm, hcs, ht⟩
  · cases hv
  · simp only [Value.slice.injEq, Option.some.injEq, Addr.mk.injEq] at hv
    obtain ⟨⟨rfl, _⟩, _, rfl⟩ := hv
    refine ⟨_, _, cur, by rw [e], hb, hg, by omega, hcm, hcs, ?_⟩
    rw [e, List.map_take, ← ht, List.take_take]
    congr 1
    omega
theorem go_cutJ {x y : Operand} {t : TypeId} {j g n cap : Nat} {xs : List Int} (hd : o.dst = some d) (hN : Nat.blt d N = true) (hop : o.op = .slice t x none (some y) none) (hx : evo e x = some (.slice (some ⟨g, 0, none⟩) n cap)) (hy : evo e y = some (.int .i64 (j : Int))) (ht : Try.prog.underlying t = some (.slice 2))
    (hi : is[k]? = some (own1I (.slice (some ⟨g, 0, none⟩) n cap) xs)) (hL : xs.length = n) (hj : j ≤ n) (h2 : 0 < cap) (h3 : n ≤ cap) (hk : GK w0 (is.set k (own1I (.slice (some ⟨g, 0, none⟩) j cap) (xs.take j))) N K ((d, .slice (some ⟨g, 0, none⟩) j cap) :: e)) : GO w0 is N o e Q K := by
  intro w ac M F
  obtain ⟨S, hS, hp, hset⟩ := mem_set M hi
  have hq : Own1 _ _ w S := hp
  have hq2 := own1_cutJ hq hj hL
  refine go_val (v := .slice (some ⟨g, 0, none⟩) j cap) (w' := w) hd hN F ?_ fun ac F => hk w ac (hset w _ ⟨rfl, rfl, rfl, Nat.le_refl _, fun k _ _ => rfl⟩ ⟨hq2.1, fun q e => .inl (hq2.2 q e)⟩) F
  intro ρ F; have hx := F _ _ hx; have hy := F _ _ hy
  have hi : (Try.prog.info? 2).map (·.size) = some 1 := by kernel_rfl
  obtain ⟨inf, i1, i2⟩ := Option.map_eq_some_iff.1 hi
  simp [execOp, hop, hx, hy, Instr.sliceAt, Instr.slice, run_underlying ht, Instr.sliceBounds, Instr.sliceBound, asIntOf, Sem.run_bind, Sem.run_pure, sizeOf, typeInfo, i1, i2]
  rw [if_pos (by omega), if_neg (by omega)]; rfl
end
def delT (p : Int → Bool) (xs : List Int) (k : Nat) : List Int := (xs.take k).filter fun x => !p x
theorem delT_len (p : Int → Bool) (xs : List Int) (k : Nat) : (delT p xs k).length ≤ k := Nat.le_trans (List.length_filter_le _ _) (by rw [List.length_take]; omega)
theorem delT_t {p : Int → Bool} {xs : List Int} {k : Nat} (hk : k < xs.length) (h : p (at0 xs (k : Int)) = false) : delT p xs (k + 1) = delT p xs k ++ [at0 xs (k : Int)] := by
  rw [at0_nat] at h ⊢
  unfold delT; rw [take_snoc hk, List.filter_append]; rw [List.getD_eq_getElem?_getD] at h ⊢; simp [h]
theorem delT_f {p : Int → Bool} {xs : List Int} {k : Nat} (hk : k < xs.length) (h : p (at0 xs (k : Int)) = true) : delT p xs (k + 1) = delT p xs k := by
  rw [at0_nat] at h
  unfold delT; rw [take_snoc hk, List.filter_append]; rw [List.getD_eq_getElem?_getD] at h ⊢; simp [h]
def midT (p : Int → Bool) (xs : List Int) (k : Nat) : List Int := delT p xs k ++ xs.drop (delT p xs k).length
theorem midT_len {p : Int → Bool} {xs : List Int} {k : Nat} (hk : k ≤ xs.length) : (midT p xs k).length = xs.length := by
  have := delT_len p xs k
  unfold midT; rw [List.length_append, List.length_drop]; omega
theorem midT_at {p : Int → Bool} {xs : List Int} {k : Nat} (hk : k < xs.length) : at0 (midT p xs k) (k : Int) = at0 xs (k : Int) := by
  have := delT_len p xs k
  rw [at0_nat, at0_nat]
  unfold midT
  rw [List.getD_eq_getElem?_getD, List.getD_eq_getElem?_getD, List.getElem?_append_right this, List.getElem?_drop]
  congr 2; omega
theorem midT_t {p : Int → Bool} {xs : List Int} {k : Nat} (hk : k < xs.length) (h : p (at0 xs (k : Int)) = false) : (midT p xs k).set ((((delT p xs k).length : Nat) : Int)).toNat (at0 xs (k : Int)) = midT p xs (k + 1) := by
  have h1 := delT_len p xs k
  unfold midT
  rw [delT_t hk h, Int.toNat_natCast, List.set_append, if_neg (Nat.lt_irrefl _), Nat.sub_self, List.length_append, List.length_singleton, List.append_assoc]
  congr 1
  rw [List.drop_eq_getElem_cons (by omega)]
  rfl
theorem midT_f {p : Int → Bool} {xs : List Int} {k : Nat} (hk : k < xs.length) (h : p (at0 xs (k : Int)) = true) : midT p xs k = midT p xs (k + 1) := by unfold midT; rw [delT_f hk h]
theorem mid_cut {p : Int → Bool} {xs cs : List Int} : (splice (midT p xs xs.length) (delT p xs xs.length).length cs).take (delT p xs xs.length).length = xs.filter fun x => !p x := by
  have e : delT p xs xs.length = xs.filter fun x => !p x := by unfold delT; rw [List.take_length]
  unfold splice midT
  rw [List.take_left' rfl, List.take_left' rfl, e]
noncomputable def idxP (p : Int → Bool) (xs : List Int) : Int := match firstN (fun k => p (at0 xs (k : Int)) = true) xs.length with | some k => (k : Int) | none => -1
theorem idxP_t {p : Int → Bool} {xs : List Int} {k : Nat} (hk : k < xs.length) (h : p (at0 xs (k : Int)) = true) (hn : ∀ j : Nat, j < k → p (at0 xs (j : Int)) = false) : idxP p xs = k := by
  unfold idxP; rw [firstN_some hk h fun j hj => by rw [hn j hj]; decide]
theorem idxP_f {p : Int → Bool} {xs : List Int} (hn : ∀ j : Nat, j < xs.length → p (at0 xs (j : Int)) = false) : idxP p xs = -1 := by
  unfold idxP; rw [firstN_none fun j hj => by rw [hn j hj]; decide]
def NoP (p : Int → Bool) (xs : List Int) (k : Nat) : Prop := ∀ j : Nat, j < k → p (at0 xs (j : Int)) = false
theorem noP_next {p : Int → Bool} {xs : List Int} {k : Nat} (h : NoP p xs k) (hn : p (at0 xs (k : Int)) = false) : NoP p xs (k + 1) := fun j hj => by
  rcases Nat.lt_or_ge j k with h1 | h1
  · exact h j h1
  · obtain rfl : j = k := by omega
    exact hn
theorem noP_del {p : Int → Bool} {xs : List Int} {k : Nat} (h : NoP p xs k) (hk : k ≤ xs.length) : delT p xs k = xs.take k := by
  unfold delT
  refine List.filter_eq_self.2 fun x hx => ?_
  obtain ⟨j, hj, rfl⟩ := (mem_takeA hk).1 hx
  rw [h j hj]; rfl
theorem idxP_cases (p : Int → Bool) (xs : List Int) : (idxP p xs = -1 ∧ NoP p xs xs.length) ∨ ∃ k : Nat, idxP p xs = k ∧ k < xs.length ∧ p (at0 xs (k : Int)) = true ∧ NoP p xs k := by
  by_cases h : NoP p xs xs.length
  · exact .inl ⟨idxP_f h, h⟩
  · have hex : ∃ k : Nat, k < xs.length ∧ p (at0 xs (k : Int)) = true := by
      refine Classical.byContradiction fun hn => h fun j hj => ?_
      cases e : p (at0 xs (j : Int)) with
      | false => rfl
      | true => exact absurd ⟨j, hj, e⟩ hn
    have hmin : ∀ n, (∃ k : Nat, k < n ∧ k < xs.length ∧ p (at0 xs (k : Int)) = true) → ∃ k : Nat, k < xs.length ∧ p (at0 xs (k : Int)) = true ∧ NoP p xs k := by
      intro n
      induction n with
      | zero => rintro ⟨k, hk, _⟩; exact absurd hk (by omega)
      | succ n ih =>
        rintro ⟨k, hk, h1, h2⟩
        by_cases hq : ∃ j : Nat, j < n ∧ j < xs.length ∧ p (at0 xs (j : Int)) = true
        · exact ih hq
        · refine ⟨k, h1, h2, fun j hj => ?_⟩
          cases e : p (at0 xs (j : Int)) with
          | false => rfl
          | true => exact absurd ⟨j, by omega, by omega, e⟩ hq
    obtain ⟨k, h1, h2⟩ := hex
    obtain ⟨k, h1, h2, h3⟩ := hmin (k + 1) ⟨k, by omega, h1, h2⟩
    exact .inr ⟨k, idxP_t h1 h2 h3, h1, h2, h3⟩
theorem mid_start {p : Int → Bool} {xs : List Int} {k : Nat} (hk : k < xs.length) (h : p (at0 xs (k : Int)) = true) (hn : NoP p xs k) : xs = midT p xs (k + 1) ∧ (delT p xs (k + 1)).length = k := by
  have e : delT p xs (k + 1) = xs.take k := by rw [delT_f hk h, noP_del hn (by omega)]
  have e2 : (xs.take k).length = k := by rw [List.length_take]; omega
  unfold midT
  rw [e, e2, List.take_append_drop]
  exact ⟨rfl, rfl⟩
theorem noP_all {p : Int → Bool} {xs : List Int} (h : NoP p xs xs.length) : (xs.filter fun x => !p x) = xs := by
  have := noP_del h (Nat.le_refl _)
  unfold delT at this
  rwa [List.take_length] at this
theorem at_mem {xs : List Int} {k : Nat} (hk : k < xs.length) : at0 xs (k : Int) ∈ xs := by rw [at0_nat]; exact mem_getD hk
end

section
set_option maxHeartbeats 1000000 in
set_option maxRecDepth 100000 in
theorem idxF_any (w : World) (v : Value) (xs : List Int) (h : Rd w v xs) (fv : Value) (p : Int → Bool) (hf : ∀ w', Below w.heap.size w w' → ∀ x ∈ xs, CallsV fv [.int .i64 x] w' (RetV w' (.bool (p x)))) :
    Calls Try.prog 108 #[v, fv] w (RetI w (idxP p xs)) := by
  obtain ⟨va, vc, rfl⟩ := rd_form h
  have hxl : xs.length ≤ 17592186044415 := by obtain ⟨_, _, _, hl, _⟩ := h; exact hl
  go_enter Try.func108, Try.ntmps108
  refine gc_enter (N := 19) rfl (look_cons (k := 0) rfl (look_cons (k := 1) rfl (look_nil _))) ?_
  refine gc_seq fun K1 hK1 => ?_
  refine gc_region ?_
  refine g_v (.free rfl) rfl rfl (qt_assign rfl rfl) ?_
  refine g_nil ?_
  refine gk_then (hK1 _ _ ?_)
  refine gc_seq fun K2 hK2 => ?_
  refine gc_seq fun K3 hK3 => ?_
  refine gc_region ?_
  refine g_v (.free rfl) rfl rfl (qt_move rfl rfl) ?_
  refine g_v (.free rfl) rfl rfl (qt_len rfl rfl ulE1 (fun w M => lenV_rd h)) ?_
  refine g_v (.free rfl) rfl rfl (qt_move rfl rfl) ?_
  refine g_nil ?_
  refine gk_then (hK3 _ _ ?_)
  refine gc_block ?_
  try simp only [List.nil_append, List.cons_append, List.append_assoc, List.set_cons_succ, List.set_cons_zero]
  refine gc_loop ([(0, _), (1, _), (7, _)] : Env) (fun s : Nat => (fun (k : Nat) => ([(8, .int .i64 (k : Int))] : Env)) s) (fun s : Nat => (fun (k : Nat) => ([] : List (Nat × Itm))) s) (fun s : Nat => (fun (k : Nat) => k ≤ xs.length ∧ NoP p xs k) s) (fun s : Nat => (fun (k : Nat) => xs.length - k) s) (0) (sub_cons rfl (sub_cons rfl (sub_cons rfl (sub_cons rfl sub_nil)))) rfl ⟨Nat.zero_le _, fun j hj => absurd hj (by omega)⟩ ?_
  rintro k hinv KL4 hKL4
  simp only [updL, List.foldl_cons, List.foldl_nil, List.set_cons_succ, List.set_cons_zero, List.cons_append, List.nil_append] at hinv hKL4 ⊢
  obtain ⟨hk, hno⟩ := hinv
  refine gc_seq fun K5 hK5 => ?_
  refine gc_region ?_
  refine g_v (.free rfl) rfl rfl (qt_lss rfl rfl rfl) ?_
  refine g_nil ?_
  refine gk_then (hK5 _ _ ?_)
  refine gc_seq fun K6 hK6 => ?_
  refine gc_cond rfl (fun hc0 => ?_) (fun hc0 => ?_)
  · try simp only [decide_eq_true_eq, decide_eq_false_iff_not, Bool.not_eq_true', Bool.not_eq_false', Bool.not_eq_eq_eq_not, Bool.not_true, Bool.not_false, ne_eq, Decidable.not_not, Classical.not_not] at hc0
    refine gc_skip ?_
    refine gk_then (hK6 _ _ ?_)
    refine gc_seq fun K7 hK7 => ?_
    refine gc_block ?_
    refine gc_seq fun K8 hK8 => ?_
    refine gc_region ?_
    refine g_v (.free rfl) rfl rfl (qt_move rfl rfl) ?_
    refine g_v (.free rfl) rfl rfl (qt_assign rfl rfl) ?_
    refine g_nil ?_
    refine gk_then (hK8 _ _ ?_)
    refine gc_seq fun K9 hK9 => ?_
    refine gc_region ?_
    refine g_v (.free rfl) rfl rfl (qt_move rfl rfl) ?_
    refine g_v (.free rfl) rfl rfl (qt_move rfl rfl) ?_
    refine g_v (.free rfl) rfl rfl (qt_move rfl rfl) ?_
    refine g_v (.free rfl) rfl rfl (qt_index rfl rfl rfl ulE1 szE1 (fun w M => lenA_rd h) (by omega) (by omega)) ?_
    refine g_v (.free rfl) rfl rfl (qt_load1 rfl rfl Try.underlying2 rfl (fun w M => mem_rd M h) (by omega) (by omega)) ?_
    refine g_q (.free rfl) rfl rfl (qt_callV rfl rfl rfl (fun w M => hf w M.1 _ (at_mem (by omega)))) ?_
    refine g_nil ?_
    refine gk_then (hK9 _ _ ?_)
    refine gc_cond rfl (fun hc1 => ?_) (fun hc1 => ?_)
    · try simp only [decide_eq_true_eq, decide_eq_false_iff_not, Bool.not_eq_true', Bool.not_eq_false', Bool.not_eq_eq_eq_not, Bool.not_true, Bool.not_false, ne_eq, Decidable.not_not, Classical.not_not] at hc1
      refine gc_seq fun K10 hK10 => ?_
      refine gc_region ?_
      refine g_v (.free rfl) rfl rfl (qt_move rfl rfl) ?_
      refine g_v (.free rfl) rfl rfl (qt_assign rfl rfl) ?_
      refine g_nil ?_
      refine gk_then (hK10 _ _ ?_)
      refine gc_ret ?_
      refine gk_block_ret ?_
      refine gk_then_ret ?_
      refine gk_then_ret ?_
      refine gk_block_ret ?_
      refine gk_then_ret ?_
      refine ret_1 rfl rfl  (fun w M => ?_)
      rw [idxP_t (p := p) (k := k) (by omega) hc1 hno]; exact ⟨rfl, M.1⟩
    · try simp only [decide_eq_true_eq, decide_eq_false_iff_not, Bool.not_eq_true', Bool.not_eq_false', Bool.not_eq_eq_eq_not, Bool.not_true, Bool.not_false, ne_eq, Decidable.not_not, Classical.not_not] at hc1
      refine gc_skip ?_
      refine gk_block ?_
      refine gk_then (hK7 _ _ ?_)
      refine gc_region ?_
      refine g_v (.free rfl) rfl rfl (qt_add rfl rfl rfl (by omega)) ?_
      refine g_v (.free rfl) rfl rfl (qt_move rfl rfl) ?_
      refine g_nil ?_
      refine gk_then (gk_take 0 ?_)
      refine gk_sub ?hs_11 (hKL4 (k + 1) ?hi_11 ?hm_11)
      case hs_11 => exact (sub_cons rfl (sub_cons rfl (sub_cons rfl (sub_cons rfl sub_nil))))
      case hi_11 => exact ⟨by omega, noP_next hno hc1⟩
      case hm_11 => omega
  · try simp only [decide_eq_true_eq, decide_eq_false_iff_not, Bool.not_eq_true', Bool.not_eq_false', Bool.not_eq_eq_eq_not, Bool.not_true, Bool.not_false, ne_eq, Decidable.not_not, Classical.not_not] at hc0
    refine gc_exit ?_
    refine gk_then_exit ?_
    refine gk_then_exit ?_
    refine gk_block_hit ?_
    refine gk_then (hK2 _ _ ?_)
    refine gc_seq fun K12 hK12 => ?_
    refine gc_region ?_
    refine g_v (.free rfl) rfl rfl (qt_assign rfl rfl) ?_
    refine g_nil ?_
    refine gk_then (hK12 _ _ ?_)
    refine gc_ret ?_
    refine ret_1 rfl rfl  (fun w M => ?_)
    obtain rfl : k = xs.length := by omega
    rw [idxP_f hno]; exact ⟨rfl, M.1⟩

set_option maxHeartbeats 1000000 in
set_option maxRecDepth 100000 in
theorem delF_any (w0 w : World) (R : Itm) (a : Option Addr) (cap : Nat) (xs : List Int) (fv : Value) (p : Int → Bool) (hf : ∀ w', Below w0.heap.size w0 w' → ∀ x ∈ xs, CallsV fv [.int .i64 x] w' (RetV w' (.bool (p x)))) (hxl : xs.length ≤ 1000000) (M : Mem w0 w [own1I (.slice a xs.length cap) xs, R]) :
    Calls Try.prog 99 #[.slice a xs.length cap, fv] w (fun e w' => ∃ s : Option Addr × Nat, e = .returned (.slice s.1 (xs.filter fun x => !p x).length s.2) ∧ Mem w0 w' [own1I (.slice s.1 (xs.filter fun x => !p x).length s.2) (xs.filter fun x => !p x), R]) := by
  go_enter Try.func99, Try.ntmps99
  refine gc_enterM M (N := 42) rfl (look_cons (k := 0) rfl (look_cons (k := 1) rfl (look_nil _))) ?_
  clear M
  refine gc_seq fun K1 hK1 => ?_
  refine gc_region ?_
  refine g_v (.free rfl) rfl rfl (qt_assign rfl rfl) ?_
  refine g_nil ?_
  refine gk_then (hK1 _ _ ?_)
  refine gc_seq fun K2 hK2 => ?_
  refine gc_region ?_
  refine g_v (.free rfl) rfl rfl (qt_move rfl rfl) ?_
  refine g_v (.free rfl) rfl rfl (qt_move rfl rfl) ?_
  refine g_q (.free rfl) rfl rfl (qt_call rfl Try.func108 rfl (by decide) rfl (fun w M => idxF_any w _ _ ((mem_own1 (n := 0) M rfl).rd) (fv) (p) (fun w' hb x hx => hf w' (M.1.trans (hb.mono M.1.size)) x hx))) ?_
  refine g_v (.free rfl) rfl rfl (qt_assign rfl rfl) ?_
  refine g_nil ?_
  refine gk_then (hK2 _ _ ?_)
  refine gc_seq fun K3 hK3 => ?_
  refine gc_seq fun K4 hK4 => ?_
  refine gc_region ?_
  refine g_v (.free rfl) rfl rfl (qt_move rfl rfl) ?_
  refine g_v (.free rfl) rfl rfl (qt_eql rfl rfl rfl) ?_
  refine g_nil ?_
  refine gk_then (hK4 _ _ ?_)
  refine gc_cond rfl (fun hc0 => ?_) (fun hc0 => ?_)
  · try simp only [decide_eq_true_eq, decide_eq_false_iff_not, Bool.not_eq_true', Bool.not_eq_false', Bool.not_eq_eq_eq_not, Bool.not_true, Bool.not_false, ne_eq, Decidable.not_not, Classical.not_not] at hc0
    refine gc_seq fun K5 hK5 => ?_
    refine gc_region ?_
    refine g_v (.free rfl) rfl rfl (qt_move rfl rfl) ?_
    refine g_v (.free rfl) rfl rfl (qt_assign rfl rfl) ?_
    refine g_nil ?_
    refine gk_then (hK5 _ _ ?_)
    refine gc_ret ?_
    refine gk_then_ret ?_
    refine ret_1 rfl rfl  (fun w M => ?_)
    rcases idxP_cases p xs with hq | ⟨m, hm, hm1, hm2, hm3⟩
    · exact ⟨(_, _), by rw [noP_all hq.2], by rw [noP_all hq.2]; exact M⟩
    omega
  · try simp only [decide_eq_true_eq, decide_eq_false_iff_not, Bool.not_eq_true', Bool.not_eq_false', Bool.not_eq_eq_eq_not, Bool.not_true, Bool.not_false, ne_eq, Decidable.not_not, Classical.not_not] at hc0
    refine gc_skip ?_
    refine gk_then (hK3 _ _ ?_)
    refine gc_seq fun K6 hK6 => ?_
    refine gc_seq fun K7 hK7 => ?_
    rcases idxP_cases p xs with hq | ⟨m, hm, hm1, hm2, hm3⟩
    · exact absurd hq.1 hc0
    rw [hm]
    have hst := mid_start hm1 hm2 hm3
    refine gc_form1 (k := 0) rfl (by omega) fun g hg hcap => ?_
    subst hg
    refine gc_region ?_
    refine g_v (.free rfl) rfl rfl (qt_move rfl rfl) ?_
    refine g_v (.free rfl) rfl rfl (qt_add rfl rfl rfl (by omega)) ?_
    refine g_v (.free rfl) rfl rfl (qt_assign rfl rfl) ?_
    refine g_nil ?_
    refine gk_then (hK7 _ _ ?_)
    refine gc_block ?_
    rw [show own1I (.slice (some ⟨g, 0, none⟩) xs.length cap) xs = own1I (.slice (some ⟨g, 0, none⟩) xs.length cap) (midT p xs (m + 1)) from by rw [← hst.1]]
    rw [show Value.int .i64 (m : Int) = Value.int .i64 ((delT p xs (m + 1)).length : Int) from by rw [hst.2]]
    try simp only [List.nil_append, List.cons_append, List.append_assoc, List.set_cons_succ, List.set_cons_zero]
    refine gc_loop ([(0, _), (1, _), (4, _), (12, _)] : Env) (fun s : Nat => (fun (k : Nat) => ([(5, .int .i64 ((delT p xs k).length : Int)), (6, .int .i64 (k : Int))] : Env)) s) (fun s : Nat => (fun (k : Nat) => ([(0, own1I (.slice (some ⟨g, 0, none⟩) xs.length cap) (midT p xs k))] : List (Nat × Itm))) s) (fun s : Nat => (fun (k : Nat) => k ≤ xs.length ∧ (delT p xs k).length < k) s) (fun s : Nat => (fun (k : Nat) => xs.length - k) s) ((m + 1)) (sub_cons rfl (sub_cons rfl (sub_cons rfl (sub_cons rfl (sub_cons rfl (sub_cons rfl sub_nil)))))) rfl ⟨by omega, by omega⟩ ?_
    rintro k hinv KL8 hKL8
    simp only [updL, List.foldl_cons, List.foldl_nil, List.set_cons_succ, List.set_cons_zero, List.cons_append, List.nil_append] at hinv hKL8 ⊢
    obtain ⟨hk, hlt⟩ := hinv
    have hml := midT_len (p := p) hk
    refine gc_seq fun K9 hK9 => ?_
    refine gc_seq fun K10 hK10 => ?_
    refine gc_region ?_
    refine g_v (.free rfl) rfl rfl (qt_move rfl rfl) ?_
    refine g_v (.free rfl) rfl rfl (qt_move rfl rfl) ?_
    refine g_v (.free rfl) rfl rfl (qt_len rfl rfl ulE1 (fun w M => lenV_own1 (n := 0) rfl M)) ?_
    refine g_v (.free rfl) rfl rfl (qt_lss rfl rfl rfl) ?_
    refine g_nil ?_
    refine gk_then (hK10 _ _ ?_)
    refine gc_cond rfl (fun hc1 => ?_) (fun hc1 => ?_)
    · try simp only [decide_eq_true_eq, decide_eq_false_iff_not, Bool.not_eq_true', Bool.not_eq_false', Bool.not_eq_eq_eq_not, Bool.not_true, Bool.not_false, ne_eq, Decidable.not_not, Classical.not_not] at hc1
      refine gc_skip ?_
      refine gk_then (hK9 _ _ ?_)
      refine gc_seq fun K11 hK11 => ?_
      refine gc_block ?_
      refine gc_seq fun K12 hK12 => ?_
      refine gc_region ?_
      refine g_v (.free rfl) rfl rfl (qt_move rfl rfl) ?_
      refine g_v (.free rfl) rfl rfl (qt_move rfl rfl) ?_
      refine g_v (.free rfl) rfl rfl (qt_index rfl rfl rfl ulE1 szE1 (fun w M => lenA_own1 (n := 0) rfl M) (by omega) (by omega)) ?_
      refine g_v (.free rfl) rfl rfl (qt_load1 rfl rfl Try.underlying2 rfl (fun w M => (mem_own1 (n := 0) M rfl).rd) (by omega) (by omega)) ?_
      refine g_v (.free rfl) rfl rfl (qt_assign rfl rfl) ?_
      refine g_nil ?_
      refine gk_then (hK12 _ _ ?_)
      refine gc_seq fun K13 hK13 => ?_
      rw [midT_at (p := p) (by omega)]
      refine gc_region ?_
      refine g_v (.free rfl) rfl rfl (qt_move rfl rfl) ?_
      refine g_v (.free rfl) rfl rfl (qt_move rfl rfl) ?_
      refine g_q (.free rfl) rfl rfl (qt_callV rfl rfl rfl (fun w M => hf w M.1 _ (at_mem (by omega)))) ?_
      refine g_v (.free rfl) rfl rfl (qt_not rfl rfl) ?_
      refine g_nil ?_
      refine gk_then (hK13 _ _ ?_)
      refine gc_cond rfl (fun hc2 => ?_) (fun hc2 => ?_)
      · try simp only [decide_eq_true_eq, decide_eq_false_iff_not, Bool.not_eq_true', Bool.not_eq_false', Bool.not_eq_eq_eq_not, Bool.not_true, Bool.not_false, ne_eq, Decidable.not_not, Classical.not_not] at hc2
        refine gc_seq fun K14 hK14 => ?_
        refine gc_region ?_
        refine g_v (.free rfl) rfl rfl (qt_move rfl rfl) ?_
        refine g_v (.free rfl) rfl rfl (qt_move rfl rfl) ?_
        refine g_v (.free rfl) rfl rfl (qt_move rfl rfl) ?_
        refine g_v (.free rfl) rfl rfl (qt_index rfl rfl rfl ulE1 szE1 (fun w M => lenA_own1 (n := 0) rfl M) (by omega) (by omega)) ?_
        refine g_op (.free rfl) fun K15 hK15 => ?_
        refine go_store1 (n := 0) rfl rfl rfl rfl (by kernel_rfl) rfl (by omega) (by omega) ?_
        refine hK15 _ _ ?_
        refine g_nil ?_
        refine gk_then (hK14 _ _ ?_)
        refine gc_region ?_
        refine g_v (.free rfl) rfl rfl (qt_move rfl rfl) ?_
        refine g_v (.free rfl) rfl rfl (qt_add rfl rfl rfl (by omega)) ?_
        refine g_v (.free rfl) rfl rfl (qt_assign rfl rfl) ?_
        refine g_nil ?_
        refine gk_block ?_
        refine gk_then (hK11 _ _ ?_)
        refine gc_region ?_
        refine g_v (.free rfl) rfl rfl (qt_move rfl rfl) ?_
        refine g_v (.free rfl) rfl rfl (qt_add rfl rfl rfl (by omega)) ?_
        refine g_v (.free rfl) rfl rfl (qt_assign rfl rfl) ?_
        refine g_nil ?_
        rw [midT_t (by omega) hc2, show ((delT p xs k).length : Int) + 1 = ((delT p xs (k + 1)).length : Int) from by rw [delT_t (by omega) hc2, List.length_append]; simp]
        refine gk_then (gk_take 2 ?_)
        refine gk_sub ?hs_16 (hKL8 (k + 1) ?hi_16 ?hm_16)
        case hs_16 => exact (sub_cons rfl (sub_cons rfl (sub_cons rfl (sub_cons rfl (sub_cons rfl (sub_cons rfl sub_nil))))))
        case hi_16 => exact ⟨by omega, by rw [delT_t (by omega) hc2, List.length_append, List.length_singleton]; omega⟩
        case hm_16 => omega
      · try simp only [decide_eq_true_eq, decide_eq_false_iff_not, Bool.not_eq_true', Bool.not_eq_false', Bool.not_eq_eq_eq_not, Bool.not_true, Bool.not_false, ne_eq, Decidable.not_not, Classical.not_not] at hc2
        refine gc_skip ?_
        refine gk_block ?_
        refine gk_then (hK11 _ _ ?_)
        refine gc_region ?_
        refine g_v (.free rfl) rfl rfl (qt_move rfl rfl) ?_
        refine g_v (.free rfl) rfl rfl (qt_add rfl rfl rfl (by omega)) ?_
        refine g_v (.free rfl) rfl rfl (qt_assign rfl rfl) ?_
        refine g_nil ?_
        rw [midT_f (by omega) hc2, ← delT_f (by omega) hc2]
        refine gk_then (gk_take 2 ?_)
        refine gk_sub ?hs_17 (hKL8 (k + 1) ?hi_17 ?hm_17)
        case hs_17 => exact (sub_cons rfl (sub_cons rfl (sub_cons rfl (sub_cons rfl (sub_cons rfl (sub_cons rfl sub_nil))))))
        case hi_17 => exact ⟨by omega, by rw [delT_f (by omega) hc2]; omega⟩
        case hm_17 => omega
    · try simp only [decide_eq_true_eq, decide_eq_false_iff_not, Bool.not_eq_true', Bool.not_eq_false', Bool.not_eq_eq_eq_not, Bool.not_true, Bool.not_false, ne_eq, Decidable.not_not, Classical.not_not] at hc1
      refine gc_exit ?_
      refine gk_then_exit ?_
      refine gk_then_exit ?_
      refine gk_block_hit ?_
      refine gk_then (hK6 _ _ ?_)
      refine gc_seq fun K18 hK18 => ?_
      obtain rfl : k = xs.length := by omega
      have hml := midT_len (p := p) (xs := xs) (k := xs.length) (Nat.le_refl _)
      have hdl := hlt
      have hsl := length_splice (midT p xs xs.length) (delT p xs xs.length).length (List.replicate (xs.length - (delT p xs xs.length).length) 0) (by rw [List.length_replicate]; omega)
      refine gc_region ?_
      refine g_v (.free rfl) rfl rfl (qt_move rfl rfl) ?_
      refine g_v (.free rfl) rfl rfl (qt_move rfl rfl) ?_
      refine g_v (.free rfl) rfl rfl (qt_fromT rfl rfl rfl Try.underlying22 (by omega) (by omega)) ?_
      refine g_op (.free rfl) fun K19 hK19 => ?_
      refine go_clearT (k := 0) rfl rfl Try.underlying22 rfl rfl (by omega) (by omega) ?_
      refine hK19 _ _ ?_
      refine g_nil ?_
      refine gk_then (hK18 _ _ ?_)
      refine gc_seq fun K20 hK20 => ?_
      refine gc_region ?_
      refine g_v (.free rfl) rfl rfl (qt_move rfl rfl) ?_
      refine g_v (.free rfl) rfl rfl (qt_move rfl rfl) ?_
      refine g_op (.free rfl) fun K21 hK21 => ?_
      refine go_cutJ (k := 0) rfl rfl rfl rfl rfl Try.underlying22 rfl (by omega) (by omega) (by omega) (by omega) ?_
      refine hK21 _ _ ?_
      refine g_v (.free rfl) rfl rfl (qt_assign rfl rfl) ?_
      refine g_nil ?_
      refine gk_then (hK20 _ _ ?_)
      refine gc_ret ?_
      refine ret_1 rfl rfl  (fun w M => ?_)
      have hq : delT p xs xs.length = (xs.filter fun x => !p x) := by unfold delT; rw [List.take_length]
      have M2 : Mem w0 w [own1I (.slice (some ⟨g, 0, none⟩) (delT p xs xs.length).length cap) ((splice (midT p xs xs.length) (delT p xs xs.length).length (List.replicate (xs.length - (delT p xs xs.length).length) 0)).take (delT p xs xs.length).length), R] := M
      rw [mid_cut, hq] at M2
      exact ⟨(some ⟨g, 0, none⟩, cap), by rw [hq], M2⟩
end
end Go.Proofs.Ytgkfampgofjkfaa
