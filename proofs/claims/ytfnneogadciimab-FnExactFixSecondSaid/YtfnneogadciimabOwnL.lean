
/- The model's copies and comparisons of lists, rows and categories. -/
import Derived.Test.YtfnneogadciimabShort
import Derived.Test.YtfnneogadciimabTab
set_option linter.unusedSimpArgs false
set_option linter.unusedVariables false
set_option linter.unusedSectionVars false
namespace Go.Proofs.Ytfnneogadciimab
open Go.RowKit


section
variable {w0 : World} {is : List Itm} {ops : Array Oper} {Q : Exit → Act → World → Prop} {o : Oper} {rest : List Oper} {N : Frm} {e : Env} {v : Value} {d : Nat} {K : Act → World → Prop}
/-- 'append(s, x..)', s of the call's own, x whatever list, nil too. -/
theorem go_appendA {s x : Operand} {t : TypeId} {n : Nat} {xs ys : List Int} {ua : Option Addr} {un uc : Nat} (hd : o.dst = some d) (hN : Nat.blt d N = true) (hop : o.op = .call { callee := .builtin .append, args := #[s, x], argTypes := #[t, t] }) (ht : Try.prog.underlying t = some (.slice 2))
  (hs : evo e s = some v) (hx : evo e x = some (.slice ua un uc)) (hi : is[n]? = some (own1I v xs)) (hj : ∀ w, Mem w0 w is → Rd w (.slice ua un uc) ys) (hn : xs.length + ys.length ≤ 17592186044415)
  (hk : ∀ a cap, GK w0 (is.set n (own1I (.slice a (xs ++ ys).length cap) (xs ++ ys))) N K ((d, .slice a (xs ++ ys).length cap) :: e)) : GO w0 is N o e Q K := by
 cases ua with
 | some q => exact go_appendL hd hN hop ht hs hx hi hj rfl hn hk
 | none =>
  intro w ac M F
  obtain ⟨ad, cap, hv, _, hc⟩ := hj w M
  have hy : ys = [] := by
   rcases Nat.eq_zero_or_pos ys.length with h0 | h0
   ·exact List.eq_nil_of_length_eq_zero h0
   ·obtain ⟨b, off, ha, _⟩ := hc 0 h0
    subst ha; cases hv
  subst hy
  simp only [Value.slice.injEq, List.length_nil] at hv
  obtain ⟨_, rfl, _⟩ := hv
  simp only [List.append_nil] at hk
  obtain ⟨S, hS, hp, hset⟩ := mem_set M hi
  have hp : Own1 v xs w S := hp
  obtain ⟨va, vc, hvf, _⟩ := sl_form hp.1
  obtain ⟨i, hi', hz, hs1, hb⟩ := info_parts info64
  have hr : (Builtin.append_ #[t, t] o.type #[v, .slice none 0 uc]).run Try.prog w = .ok v w := by
   rcases hp.1.1.2 with ⟨rfl, _⟩ | ⟨g, cap, cur, rfl, _, _, hnc, _⟩
   ·simp [Builtin.append_, run_underlying ht, sizeOf, typeInfo, hi', Builtin.lenOf, Builtin.firstCells]
   ·simp [Builtin.append_, run_underlying ht, sizeOf, typeInfo, hi', Builtin.lenOf, Builtin.firstCells, hnc, storeCells]
  subst hvf
  have hM : Mem w0 w (is.set n (own1I (.slice va xs.length vc) xs)) := by
   have : is.set n (own1I (.slice va xs.length vc) xs) = is := by
    have h1 := (List.getElem?_eq_some_iff.1 hi)
    obtain ⟨hlt, he⟩ := h1
    rw [← he, List.set_getElem_self]
   rw [this]; exact M
  refine go_val (v := .slice va xs.length vc) (w' := w) hd hN F ?_ fun ac F => hk va vc w ac hM F
  intro ρ F; have hs := F _ _ hs; have hx := F _ _ hx
  simp only [execOp, hop, resolve, invoke, builtin, Sem.run_bind, Sem.run_pure, Result.andThen_ok, List.map_toArray, List.map_cons, List.map_nil, hs, hx]
  rw [hr]
  rfl
end
theorem take2_succ {xs : List (List Int)} {k : Nat} (h : k < xs.length) : xs.take k ++ [row2 xs (k : Int)] = xs.take (k + 1) := by
 rw [List.take_succ_eq_append_getElem h]; simp [row2, List.getD_eq_getElem?_getD, List.getElem?_eq_getElem h]
theorem take2_len {xs : List (List Int)} {k : Nat} (h : k ≤ xs.length) : (xs.take k).length = k := by simp; omega

set_option maxHeartbeats 1000000 in
set_option maxRecDepth 100000 in
theorem specOwn_any (w : World) (v : Value) (xs : List Int) (h : Rd w v xs) :
  Calls Try.prog 125 #[v] w (RetL w xs) := by
 obtain ⟨va, vc, rfl⟩ := rd_form h
 have hxl : xs.length ≤ 17592186044415 := by obtain ⟨_, _, _, hl, _⟩ := h; exact hl
 go_enter Try.func125, Try.ntmps125
 refine gc_enter (N := 6) rfl (look_cons (k := 0) rfl (look_nil _)) ?_
 refine gc_sr fun K1 hK1 => ?_
 refine gas ?_
 refine gnt (hK1 _ _ ?_)
 refine gc_sr fun K2 hK2 => ?_
 refine gop fun K4 hK4 => ?_
 refine go_slice0 rfl rfl rfl Try.underlying22 ?_
 intro B3
 refine hK4 _ _ ?_
 refine gm ?_
 refine gop fun K6 hK6 => ?_
 refine go_appendA (n := 0) rfl rfl rfl Try.underlying22 rfl rfl rfl (fun w M => mem_rd M h) (by first | simp; omega | omega) ?_
 intro va5 vc5
 refine hK6 _ _ ?_
 refine gas ?_
 refine gnt (hK2 _ _ ?_)
 refine gc_ret ?_
 refine ret_1 rfl rfl  (fun w M => ?_)
 exact ⟨_, rfl, mem_own1 (n := 0) M rfl, M.1⟩

set_option maxHeartbeats 1000000 in
set_option maxRecDepth 100000 in
theorem specOwn2_any (w : World) (v : Value) (xs : List (List Int)) (h : Rd2 w v xs) :
  Calls Try.prog 150 #[v] w (RetR w xs) := by
 obtain ⟨va, vc, rfl⟩ := rd2_form h
 have hxl := rd2_len h
 go_enter Try.func150, Try.ntmps150
 refine gc_enter (N := 21) rfl (look_cons (k := 0) rfl (look_nil _)) ?_
 refine gc_sr fun K1 hK1 => ?_
 refine gas ?_
 refine gnt (hK1 _ _ ?_)
 refine gc_sr fun K2 hK2 => ?_
 refine gop fun K4 hK4 => ?_
 refine go_sliceR0 rfl rfl rfl Try.underlying23 ?_
 intro B3
 refine hK4 _ _ ?_
 refine gas ?_
 refine gnt (hK2 _ _ ?_)
 refine gc_seq fun K5 hK5 => ?_
 refine gc_sr fun K6 hK6 => ?_
 refine gas ?_
 refine gnt (hK6 _ _ ?_)
 refine gc_block ?_
 try simp only [sL]
 refine gc_loopT ([(0, _), (2, _)] : Env) (fun s : Nat × (Option Addr) × Nat × (List Value) => (fun (k : Nat) (a : Option Addr) (q : Nat) (us : List Value) => (([(3, .slice a (xs.take k).length q), (4, .int .i64 (k : Int))] : Env), ([(0, own2U (.slice a (xs.take k).length q) us (xs.take k))] : List (Nat × Itm)), k ≤ xs.length, xs.length - k)) s.1 s.2.1 s.2.2.1 s.2.2.2) (0, _, _, _) (by repeat first | exact sub_nil | refine sub_cons rfl ?_) rfl (Nat.zero_le _) ?_
 rintro ⟨k, a, q, us⟩ hinv KL7 hKL7
 simp only [sU, sL] at hinv hKL7 ⊢
 have hk := hinv
 have hl := take2_len hk
 refine gc_seq fun K8 hK8 => ?_
 refine gc_sr fun K9 hK9 => ?_
 refine gm ?_
 refine gm ?_
 refine gv (qt_len rfl rfl ulE2 (fun w M => lenV_rd2 h)) ?_
 refine gv (qt_lss rfl rfl rfl) ?_
 refine gnt (hK9 _ _ ?_)
 refine gc_cond rfl (fun hc0 => ?_) (fun hc0 => ?_)
 ·try simp only [sA] at hc0
  refine gc_skip ?_
  refine gk_then (hK8 _ _ ?_)
  refine gc_seq fun K10 hK10 => ?_
  refine gc_block ?_
  refine gc_region ?_
  refine gm ?_
  refine gm ?_
  refine gm ?_
  refine gv (qti2 (fun w M => lenA_rd2 h)) ?_
  refine g_load2 (.free rfl) rfl rfl rfl rfl Try.underlying22 rfl h (by omega) (by omega) ?_
  intro ra11 rc11 hr11
  refine gop fun K13 hK13 => ?_
  refine go_callL rfl rfl rfl Try.func125 rfl (by decide) rfl (fun w M => specOwn_any w _ _ (mem_rd M hr11)) ?_
  intro va12 vc12
  refine hK13 _ _ ?_
  refine gop fun K15 hK15 => ?_
  refine go_sliceR1 (m := 1) rfl rfl rfl rfl Try.underlying23 rfl ?_
  intro B14
  refine hK15 _ _ ?_
  refine gop fun K17 hK17 => ?_
  refine go_appendRow (n := 0) (m := 1) (m' := 0) rfl rfl rfl Try.underlying23 rfl rfl rfl rfl rfl (by omega) ?_
  intro va16 vc16
  refine hK17 _ _ ?_
  refine gas ?_
  refine g_nil ?_
  refine gk_block ?_
  refine gk_then (hK10 _ _ ?_)
  refine gc_region ?_
  refine gm ?_
  refine gv (qt_add rfl rfl rfl (by omega)) ?_
  refine gas ?_
  refine g_nil ?_
  simp only [take2_succ (xs := xs) (k := k) (by omega)]
  refine gk_then (gk_take 1 ?_)
  refine gk_sub ?hs_18 (hKL7 (k + 1, _, _, _) ?hi_18 ?hm_18)
  case hs_18 => repeat first | exact sub_nil | refine sub_cons rfl ?_
  case hi_18 => omega
  case hm_18 => omega
 ·try simp only [sA] at hc0
  refine gc_exit ?_
  refine gk_then_exit ?_
  refine gk_then_exit ?_
  refine gk_block_hit ?_
  refine gk_then (hK5 _ _ ?_)
  refine gc_sr fun K19 hK19 => ?_
  refine gm ?_
  refine gas ?_
  refine gnt (hK19 _ _ ?_)
  refine gc_ret ?_
  refine ret_1 rfl rfl  (fun w M => ?_)
  obtain rfl : k = xs.length := by omega
  simp only [List.take_length] at M ⊢
  obtain ⟨S, hS, hb⟩ := mem_2U (n := 0) M rfl
  exact ⟨_, rfl, Own2.at (S := S) ⟨_, hb⟩ hS, M.1⟩

set_option maxHeartbeats 1000000 in
set_option maxRecDepth 100000 in
theorem specOwnC_any (w : World) (v : Value) (c : Cat) (h : RdC w v c) :
  Calls Try.prog 124 #[v] w (RetC w c) := by
 have h0 := h
 obtain ⟨va, vb, vc, vd, ve, vf, vg, vh, rfl, h1, h2, h3, h4, _⟩ := h.lists
 go_enter Try.func124, Try.ntmps124
 refine gc_enter (N := 18) rfl (look_cons (k := 0) rfl (look_nil _)) ?_
 refine gc_sr fun K1 hK1 => ?_
 refine gop fun K3 hK3 => ?_
 refine go_box rfl rfl rfl rfl rfl ?_
 intro B2
 refine hK3 _ _ ?_
 refine gop fun K5 hK5 => ?_
 refine go_alloc (z := (.agg #[.int .i64 0, .slice none 0 0, .slice none 0 0, .slice none 0 0, .slice none 0 0])) (cs := [.int .i64 0, .slice none 0 0, .slice none 0 0, .slice none 0 0, .slice none 0 0]) rfl rfl rfl (fun w => by kernel_rfl) rfl ?_
 intro B4
 refine hK5 _ _ ?_
 refine gnt (hK1 _ _ ?_)
 refine gc_seq fun K6 hK6 => ?_
 try simp only [sL]
 refine ga_start _ (fun w M => mem_erase 1 (M)) ?_
 refine gav 0 rfl (qtf Try.underlying30 (z := 0) (off := 0)) ?_
 refine gav 1 rfl (qtl Try.underlying2 (n := 0)) ?_
 refine gav 2 rfl (qtf Try.underlying30 (z := 0) (off := 1)) ?_
 refine gav 3 rfl (qtl Try.underlying22 (n := 0)) ?_
 refine gav 5 rfl (qtf Try.underlying30 (z := 0) (off := 2)) ?_
 refine gav 6 rfl (qtl Try.underlying22 (n := 0)) ?_
 refine gav 8 rfl (qtf Try.underlying30 (z := 0) (off := 3)) ?_
 refine gav 9 rfl (qtl Try.underlying22 (n := 0)) ?_
 refine gav 11 rfl (qtf Try.underlying30 (z := 0) (off := 4)) ?_
 refine gav 12 rfl (qtl Try.underlying23 (n := 0)) ?_
 refine gao 4 fun K8 hK8 => ?_
 refine go_callL rfl rfl rfl Try.func125 rfl (by decide) rfl (fun w M => specOwn_any w _ _ (mem_rd M h1)) ?_
 intro va7 vc7
 refine hK8 _ _ (fun w M => (mem_erase 1 (mem_take 2 M) :)) ?_
 refine gao 7 fun K10 hK10 => ?_
 refine go_callL rfl rfl rfl Try.func125 rfl (by decide) rfl (fun w M => specOwn_any w _ _ (mem_rd M h2)) ?_
 intro va9 vc9
 refine hK10 _ _ (fun w M => (mem_erase 1 (mem_take 2 M) :)) ?_
 refine gao 10 fun K12 hK12 => ?_
 refine go_callL rfl rfl rfl Try.func125 rfl (by decide) rfl (fun w M => specOwn_any w _ _ (mem_rd M h3)) ?_
 intro va11 vc11
 refine hK12 _ _ (fun w M => (mem_erase 1 (mem_take 2 M) :)) ?_
 refine gao 13 fun K14 hK14 => ?_
 refine go_callR rfl rfl rfl Try.func150 rfl (by decide) rfl (fun w M => specOwn2_any w _ _ (mem_rd2 M h4)) ?_
 intro va13 vc13 us13
 refine hK14 _ _ (fun w M => (mem_erase 1 (mem_take 2 M) :)) ?_
 refine gav 14 rfl (qt_build rfl rfl bt_Category) ?_
 refine gao 15 fun K15 hK15 => ?_
 refine go_storeS (n := 1) rfl rfl rfl rfl (by kernel_rfl) rfl rfl rfl ?_
 refine hK15 _ _ (fun w M => (mem_erase 1 (mem_take 2 M) :)) ?_
 refine ga_done (by kernel_rfl) ?_
 refine gk_then (hK6 _ _ ?_)
 refine gc_ret ?_
 refine ret_S (n := 1) rfl rfl Try.underlying30 rfl (by kernel_rfl) rfl (fun w M => ?_)
 exact ⟨_, rfl, ownC_star (mem_pick (n := 5) (mem_pick (n := 5) (mem_pick (n := 5) (mem_pick (n := 5) (M) rfl) rfl) rfl) rfl).2, M.1⟩

end Go.Proofs.Ytfnneogadciimab
