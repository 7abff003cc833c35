import Derived.Test.YtbiplocgenppoaaS10
import Derived.Test.YtbiplocgenppoaaS4
import Derived.Test.YtbiplocgenppoaaS9
set_option maxHeartbeats 1000000
set_option maxRecDepth 100000
set_option linter.unusedSimpArgs false
set_option linter.unusedVariables false
set_option linter.unusedSectionVars false
namespace Go.Proofs.Ytbiplocgenppoaa
open _root_.Go.Proofs.Try
open Go.RowKit
def BxV (w : World) (B : Nat) (t : TypeId) (v : Value) : Prop := w.heap[B]? = some (.cells v.cells t (0, 0))
theorem bxV_below {w w' : World} {B : Nat} {t : TypeId} {v : Value} (hb : Below w.heap.size w w') (h : BxV w B t v) : BxV w' B t v := by
  unfold BxV at h ⊢
  rw [hb.block B (Array.getElem?_eq_some_iff.1 h).1]; exact h
section
variable {w0 : World} {is : List Itm} {o : Oper} {e : Env} {v : Value}
theorem mem_bxR {w : World} {B : Nat} {t : TypeId} {cs : List Value} (M : Mem w0 w is) (h : BxV w0 B t (.agg cs.toArray)) : Bx w B t cs := bxV_below M.1 h
theorem bxV_of {w : World} {n B : Nat} {t : TypeId} {cs : List Value} (M : Mem w0 w is) (h : is[n]? = some (bxI B t cs)) : BxV w B t (.agg cs.toArray) := mem_bx M h
theorem qt_loadRB {x : Operand} {t tb : TypeId} {B j : Nat} {cs : List Value} {td : TypeDesc} (hb : BxV w0 B tb (.agg cs.toArray)) (hop : o.op = .load t x) (hx : evo e x = some (.pointer (some ⟨B, j, none⟩))) (ht : Try.prog.underlying t = some td) (hd : aggT td = false)
    (hv : cs[j]? = some v) : QV w0 is o e v :=
  fun w ac M F => by
    have hx := F _ _ hx
    have hc := bx_cell (mem_bxR M hb) j hv
    simp [execOp, hop, hx, run_load1 ht hd hc]
theorem qt_loadRS {x : Operand} {t tb : TypeId} {B : Nat} {cs : List Value} {td : TypeDesc} (hb : BxV w0 B tb (.agg cs.toArray)) (hop : o.op = .load t x) (hx : evo e x = some (.pointer (some ⟨B, 0, none⟩))) (ht : Try.prog.underlying t = some td) (hd : aggT td = true)
    (hs : (Try.prog.info? t).map (·.size) = some cs.length) : QV w0 is o e (.agg cs.toArray) :=
  fun w ac M F => by
    have hx := F _ _ hx
    have hc : w.heap[B]? = some (.cells cs.toArray tb (0, 0)) := mem_bxR M hb
    simp [execOp, hop, hx, Instr.loadAt, Instr.sureAddr, run_loadVar_row w B tb t cs.toArray (0, 0) td hc ht (by cases td <;> simp_all [aggT]) (by simpa using hs)]
end
end Go.Proofs.Ytbiplocgenppoaa
namespace Go.Proofs.Ytbiplocgenppoaa
open _root_.Go.Proofs.Try
open Go.RowKit
section
variable {α : Type} [Inhabited α]
def entsTo (φ : Nat → Ent α) (k : Nat) : List (Ent α) := (List.range k).map φ
theorem entsTo_len (φ : Nat → Ent α) (k : Nat) : (entsTo φ k).length = k := by simp [entsTo]
theorem entsTo_at (φ : Nat → Ent α) {k j : Nat} (h : j < k) : atE (entsTo φ k) (j : Int) = φ j := by
  rw [atE_eq (by rw [entsTo_len]; exact h)]; simp [entsTo]
theorem entsTo_nodup {φ : Nat → Ent α} {k : Nat} (h : ∀ i j, i < k → j < k → φ i = φ j → i = j) : (entsTo φ k).Nodup := by
  unfold entsTo List.Nodup
  rw [List.pairwise_map]
  refine List.Pairwise.imp_of_mem (fun {a b} ha hb hab he => hab (h a b (List.mem_range.1 ha) (List.mem_range.1 hb) he)) (List.nodup_range (n := k))
variable [DecidableEq α]
theorem idx_nodup {β : Type} [BEq β] [LawfulBEq β] : ∀ (es : List β) (j : Nat) (h : j < es.length), es.Nodup → es.idxOf es[j] = j
  | [], j, h, _ => by simp at h
  | e :: es, 0, h, _ => by simp
  | e :: es, j + 1, h, hn => by
    have hn' := List.nodup_cons.1 hn
    have hj : j < es.length := by simpa using h
    have hne : (e == es[j]) = false := by
      simp only [beq_eq_false_iff_ne, ne_eq]
      intro he
      exact hn'.1 (by rw [he]; exact List.getElem_mem hj)
    simp only [List.getElem_cons_succ, List.idxOf_cons, hne, idx_nodup es j hj hn'.2]
    rfl
theorem posE_at {es : List (Ent α)} (hn : es.Nodup) {j : Nat} (h : j < es.length) {e : Ent α} (he : atE es (j : Int) = e) : posE es e = j := by
  subst he
  have hm := atE_mem h
  unfold posE
  rw [if_pos hm, atE_eq h]
  rw [idx_nodup es j h hn]
theorem posE_to {φ : Nat → Ent α} {k : Nat} (hi : ∀ i j, i < k → j < k → φ i = φ j → i = j) {j : Nat} (h : j < k) {e : Ent α} (he : φ j = e) : posE (entsTo φ k) e = j :=
  posE_at (entsTo_nodup hi) (by rw [entsTo_len]; exact h) (by rw [entsTo_at φ h, he])
theorem posE_int {φ : Nat → Ent α} {k : Nat} (hi : ∀ i j, i < k → j < k → φ i = φ j → i = j) {j : Int} (h0 : 0 ≤ j) (h1 : j < k) {e : Ent α} (he : φ j.toNat = e) : posE (entsTo φ k) e = j := by
  obtain ⟨n, rfl⟩ := Int.eq_ofNat_of_zero_le h0
  exact posE_to hi (by omega) he
theorem buildE_to {n : Int} {φ : Nat → Ent α} {k : Nat} {u : Nat → α} {th : α → α → α} {c : Cat} (ho : c.ob = n) (hs : c.s.length = k) (ht : c.t.length = k) (he : c.e.length = n.toNat) (hm : c.m.length = k) (hr : ∀ i, i < k → (row2 c.m (i : Int)).length = k)
    (h1 : ∀ i, i < k → at0 c.s (i : Int) = (φ i).1) (h2 : ∀ i, i < k → at0 c.t (i : Int) = (φ i).2.1) (h3 : ∀ x, x < n.toNat → at0 c.e (x : Int) = posE (entsTo φ k) ((x : Int), (x : Int), u x))
    (h4 : ∀ i j, i < k → j < k → at0 (row2 c.m (i : Int)) (j : Int) = cellE (entsTo φ k) th (φ i) (φ j)) : buildE n (entsTo φ k) u th = c := by
  have e1 : c.s = tabTo (fun i => (atE (entsTo φ k) (i : Int)).1) k := tabTo_ext hs fun j hj => by rw [h1 j hj, entsTo_at φ hj]
  have e2 : c.t = tabTo (fun i => (atE (entsTo φ k) (i : Int)).2.1) k := tabTo_ext ht fun j hj => by rw [h2 j hj, entsTo_at φ hj]
  have e3 : c.e = tabTo (fun x => posE (entsTo φ k) ((x : Int), (x : Int), u x)) n.toNat := tabTo_ext he fun j hj => h3 j hj
  have e4 : c.m = rowsTo (fun i => rowE (entsTo φ k) th (atE (entsTo φ k) (i : Int))) k := rowsTo_ext hm fun i hi => by
    unfold rowE
    rw [entsTo_len]
    refine tabTo_ext (hr i hi) fun j hj => ?_
    rw [h4 i j hi hj, entsTo_at φ hi, entsTo_at φ hj]
  obtain ⟨ob, s, t, e, m⟩ := c
  simp only at ho e1 e2 e3 e4
  unfold buildE
  rw [entsTo_len, ← e1, ← e2, ← e3, ← e4, ho]
end
end Go.Proofs.Ytbiplocgenppoaa
namespace Go.Proofs.Ytbiplocgenppoaa
open _root_.Go.Proofs.Try
open Go.RowKit
section
variable {w0 : World} {is : List Itm} {ops : Array Oper} {Q : Exit → Act → World → Prop} {o : Oper} {rest : List Oper} {N : Frm} {e : Env} {v : Value} {d : Nat} {K : Act → World → Prop}
theorem go_appendA {s x : Operand} {t : TypeId} {n : Nat} {xs ys : List Int} {ua : Option Addr} {un uc : Nat} (hd : o.dst = some d) (hN : Nat.blt d N = true) (hop : o.op = .call { callee := .builtin .append, args := #[s, x], argTypes := #[t, t] }) (ht : Try.prog.underlying t = some (.slice 2))
  (hs : evo e s = some v) (hx : evo e x = some (.slice ua un uc)) (hi : is[n]? = some (own1I v xs)) (hj : ∀ w, Mem w0 w is → Rd w (.slice ua un uc) ys) (hn : xs.length + ys.length ≤ 17592186044415)
  (hk : ∀ a cap, GK w0 (is.set n (own1I (.slice a (xs ++ ys).length cap) (xs ++ ys))) N K ((d, .slice a (xs ++ ys).length cap) :: e)) : GO w0 is N o e Q K := by
 cases ua with
 | some q => exact go_appendL hd hN hop ht hs hx hi hj rfl hn hk
 | none =>
  intro w ac M F
  obtain ⟨ad, cap, hv, _, hc⟩ := hj w M
  have hy : ys = [] := by
   rcases Nat.eq_zero_or_pos ys.length with h0 | h0
   ·exact List.eq_nil_of_length_eq_zero h0
   obtain ⟨b, off, ha, _⟩ := hc 0 h0
   subst ha; cases hv
  subst hy
  simp only [Value.slice.injEq, List.length_nil] at hv
  obtain ⟨_, rfl, _⟩ := hv
  simp only [List.append_nil] at hk
  obtain ⟨S, hS, hp, hset⟩ := mem_set M hi
  have hp : Own1 v xs w S := hp
  obtain ⟨va, vc, hvf, _⟩ := sl_form hp.1
  obtain ⟨i, hi', hz, hs1, hb⟩ := info_parts info64
  have hr : (Builtin.append_ #[t, t] o.type #[v, .slice none 0 uc]).run Try.prog w = .ok v w := by
   rcases hp.1.1.2 with ⟨rfl, _⟩ | ⟨g, cap, cur, rfl, _, _, hnc, _⟩
   ·simp [Builtin.append_, run_underlying ht, sizeOf, typeInfo, hi', Builtin.lenOf, Builtin.firstCells]
   simp [Builtin.append_, run_underlying ht, sizeOf, typeInfo, hi', Builtin.lenOf, Builtin.firstCells, hnc, storeCells]
  subst hvf
  have hM : Mem w0 w (is.set n (own1I (.slice va xs.length vc) xs)) := by
   have : is.set n (own1I (.slice va xs.length vc) xs) = is := by
    have h1 := (List.getElem?_eq_some_iff.1 hi)
    obtain ⟨hlt, he⟩ := h1
    rw [← he, List.set_getElem_self]
   rw [this]; exact M
  refine go_val (v := .slice va xs.length vc) (w' := w) hd hN F ?_ fun ac F => hk va vc w ac hM F
  intro ρ F; have hs := F _ _ hs; have hx := F _ _ hx
  simp only [execOp, hop, resolve, invoke, builtin, Sem.run_bind, Sem.run_pure, Result.andThen_ok, List.map_toArray, List.map_cons, List.map_nil, hs, hx]
  rw [hr]
  rfl
end
theorem take2_succ {xs : List (List Int)} {k : Nat} (h : k < xs.length) : xs.take k ++ [row2 xs (k : Int)] = xs.take (k + 1) := by
 rw [List.take_succ_eq_append_getElem h]; simp [row2, List.getD_eq_getElem?_getD, List.getElem?_eq_getElem h]
theorem take2_len {xs : List (List Int)} {k : Nat} (h : k ≤ xs.length) : (xs.take k).length = k := by simp; omega
theorem specOwn_any (w : World) (v : Value) (xs : List Int) (h : Rd w v xs) :
  Calls Try.prog 68 #[v] w (RetL w xs) := by
 obtain ⟨va, vc, rfl⟩ := rd_form h
 have hxl : xs.length ≤ 17592186044415 := by obtain ⟨_, _, _, hl, _⟩ := h; exact hl
 go_enter func68, Try.ntmps68
 refine gc_enter (N := 6) rfl (look_cons (k := 0) rfl (look_nil _)) ?_
 refine gc_sr fun K1 hK1 => ?_
 refine gas ?_
 refine gnt (hK1 _ _ ?_)
 refine gc_sr fun K2 hK2 => ?_
 refine gop fun K4 hK4 => ?_
 refine go_slice0 rfl rfl rfl underlying24 ?_
 intro B3
 refine hK4 _ _ ?_
 refine gm ?_
 refine gop fun K6 hK6 => ?_
 refine go_appendA (n := 0) rfl rfl rfl underlying24 rfl rfl rfl (fun w M => mem_rd M h) (by first | simp; omega | omega) ?_
 intro va5 vc5
 refine hK6 _ _ ?_
 refine gas ?_
 refine gnt (hK2 _ _ ?_)
 refine gc_ret ?_
 refine ret_1 rfl rfl  (fun w M => ?_)
 exact ⟨_, rfl, mem_own1 (n := 0) M rfl, M.1⟩
theorem specOwn2_any (w : World) (v : Value) (xs : List (List Int)) (h : Rd2 w v xs) :
  Calls Try.prog 103 #[v] w (RetR w xs) := by
 obtain ⟨va, vc, rfl⟩ := rd2_form h
 have hxl := rd2_len h
 go_enter func103, Try.ntmps103
 refine gc_enter (N := 21) rfl (look_cons (k := 0) rfl (look_nil _)) ?_
 refine gc_sr fun K1 hK1 => ?_
 refine gas ?_
 refine gnt (hK1 _ _ ?_)
 refine gc_sr fun K2 hK2 => ?_
 refine gop fun K4 hK4 => ?_
 refine go_sliceR0 rfl rfl rfl underlying25 ?_
 intro B3
 refine hK4 _ _ ?_
 refine gas ?_
 refine gnt (hK2 _ _ ?_)
 refine gc_seq fun K5 hK5 => ?_
 refine gc_sr fun K6 hK6 => ?_
 refine gas ?_
 refine gnt (hK6 _ _ ?_)
 refine gc_block ?_
 try simp only [sL]
 refine gc_loopT ([(0, _), (2, _)] : Env) (fun s : Nat × (Option Addr) × Nat × (List Value) => (fun (k : Nat) (a : Option Addr) (q : Nat) (us : List Value) => (([(3, .slice a (xs.take k).length q), (4, .int .i64 (k : Int))] : Env), ([(0, own2U (.slice a (xs.take k).length q) us (xs.take k))] : List (Nat × Itm)), k ≤ xs.length, xs.length - k)) s.1 s.2.1 s.2.2.1 s.2.2.2) (0, _, _, _) (by repeat first | exact sub_nil | refine sub_cons rfl ?_) rfl (Nat.zero_le _) ?_
 rintro ⟨k, a, q, us⟩ hinv KL7 hKL7
 simp only [sU, sL] at hinv hKL7 ⊢
 have hk := hinv
 have hl := take2_len hk
 refine gc_seq fun K8 hK8 => ?_
 refine gc_sr fun K9 hK9 => ?_
 refine gm ?_
 refine gm ?_
 refine gv (qt_len rfl rfl ulE2 (fun w M => lenV_rd2 h)) ?_
 refine gv (qt_lss rfl rfl rfl) ?_
 refine gnt (hK9 _ _ ?_)
 refine gc_cond rfl (fun hc0 => ?_) (fun hc0 => ?_)
 ·try simp only [sA] at hc0
  refine gc_skip ?_
  refine gk_then (hK8 _ _ ?_)
  refine gc_seq fun K10 hK10 => ?_
  refine gc_block ?_
  refine gc_region ?_
  refine gm ?_
  refine gm ?_
  refine gm ?_
  refine gv (qti2 (fun w M => lenA_rd2 h)) ?_
  refine g_load2 (.free rfl) rfl rfl rfl rfl underlying24 rfl h (by omega) (by omega) ?_
  intro ra11 rc11 hr11
  refine gop fun K13 hK13 => ?_
  refine go_callL rfl rfl rfl func68 rfl (by decide) rfl (fun w M => specOwn_any w _ _ (mem_rd M hr11)) ?_
  intro va12 vc12
  refine hK13 _ _ ?_
  refine gop fun K15 hK15 => ?_
  refine go_sliceR1 (m := 1) rfl rfl rfl rfl underlying25 rfl ?_
  intro B14
  refine hK15 _ _ ?_
  refine gop fun K17 hK17 => ?_
  refine go_appendRow (n := 0) (m := 1) (m' := 0) rfl rfl rfl underlying25 rfl rfl rfl rfl rfl (by omega) ?_
  intro va16 vc16
  refine hK17 _ _ ?_
  refine gas ?_
  refine g_nil ?_
  refine gk_block ?_
  refine gk_then (hK10 _ _ ?_)
  refine gc_region ?_
  refine gm ?_
  refine gv (qt_add rfl rfl rfl (by omega)) ?_
  refine gas ?_
  refine g_nil ?_
  simp only [take2_succ (xs := xs) (k := k) (by omega)]
  refine gk_then (gk_take 1 ?_)
  refine gk_sub ?hs_18 (hKL7 (k + 1, _, _, _) ?hi_18 ?hm_18)
  case hs_18 => repeat first | exact sub_nil | refine sub_cons rfl ?_
  case hi_18 => omega
  case hm_18 => omega
 try simp only [sA] at hc0
 refine gc_exit ?_
 refine gk_then_exit ?_
 refine gk_then_exit ?_
 refine gk_block_hit ?_
 refine gk_then (hK5 _ _ ?_)
 refine gc_sr fun K19 hK19 => ?_
 refine gm ?_
 refine gas ?_
 refine gnt (hK19 _ _ ?_)
 refine gc_ret ?_
 refine ret_1 rfl rfl  (fun w M => ?_)
 obtain rfl : k = xs.length := by omega
 simp only [List.take_length] at M ⊢
 obtain ⟨S, hS, hb⟩ := mem_2U (n := 0) M rfl
 exact ⟨_, rfl, Own2.at (S := S) ⟨_, hb⟩ hS, M.1⟩
theorem specOwnC_any (w : World) (v : Value) (c : Cat) (h : RdC w v c) :
  Calls Try.prog 86 #[v] w (RetC w c) := by
 have h0 := h
 obtain ⟨va, vb, vc, vd, ve, vf, vg, vh, rfl, h1, h2, h3, h4, _⟩ := h.lists
 go_enter func86, Try.ntmps86
 refine gc_enter (N := 18) rfl (look_cons (k := 0) rfl (look_nil _)) ?_
 refine gc_sr fun K1 hK1 => ?_
 refine gop fun K3 hK3 => ?_
 refine go_box rfl rfl rfl rfl rfl ?_
 intro B2
 refine hK3 _ _ ?_
 refine gop fun K5 hK5 => ?_
 refine galC ?_
 intro B4
 refine hK5 _ _ ?_
 refine gnt (hK1 _ _ ?_)
 refine gc_seq fun K6 hK6 => ?_
 try simp only [sL]
 refine ga_start _ (fun w M => mem_erase 1 (M)) ?_
 refine gav 0 rfl (qtf underlying27 (z := 0) (off := 0)) ?_
 refine gav 1 rfl (qtl underlying2 (n := 0)) ?_
 refine gav 2 rfl (qtf underlying27 (z := 0) (off := 1)) ?_
 refine gav 3 rfl (qtl underlying24 (n := 0)) ?_
 refine gav 5 rfl (qtf underlying27 (z := 0) (off := 2)) ?_
 refine gav 6 rfl (qtl underlying24 (n := 0)) ?_
 refine gav 8 rfl (qtf underlying27 (z := 0) (off := 3)) ?_
 refine gav 9 rfl (qtl underlying24 (n := 0)) ?_
 refine gav 11 rfl (qtf underlying27 (z := 0) (off := 4)) ?_
 refine gav 12 rfl (qtl underlying25 (n := 0)) ?_
 refine gao 4 fun K8 hK8 => ?_
 refine go_callL rfl rfl rfl func68 rfl (by decide) rfl (fun w M => specOwn_any w _ _ (mem_rd M h1)) ?_
 intro va7 vc7
 refine hK8 _ _ (fun w M => (ms1 1 2 M :)) ?_
 refine gao 7 fun K10 hK10 => ?_
 refine go_callL rfl rfl rfl func68 rfl (by decide) rfl (fun w M => specOwn_any w _ _ (mem_rd M h2)) ?_
 intro va9 vc9
 refine hK10 _ _ (fun w M => (ms1 1 2 M :)) ?_
 refine gao 10 fun K12 hK12 => ?_
 refine go_callL rfl rfl rfl func68 rfl (by decide) rfl (fun w M => specOwn_any w _ _ (mem_rd M h3)) ?_
 intro va11 vc11
 refine hK12 _ _ (fun w M => (ms1 1 2 M :)) ?_
 refine gao 13 fun K14 hK14 => ?_
 refine go_callR rfl rfl rfl func103 rfl (by decide) rfl (fun w M => specOwn2_any w _ _ (mem_rd2 M h4)) ?_
 intro va13 vc13 us13
 refine hK14 _ _ (fun w M => (ms1 1 2 M :)) ?_
 refine gav 14 rfl (qt_build rfl rfl bt_Category) ?_
 refine gao 15 fun K15 hK15 => ?_
 refine gss 1 ?_
 refine hK15 _ _ (fun w M => (ms1 1 2 M :)) ?_
 refine ga_done (by kernel_rfl) ?_
 refine gk_then (hK6 _ _ ?_)
 refine gc_ret ?_
 refine ret_S (n := 1) rfl rfl underlying27 rfl (by kernel_rfl) rfl (fun w M => ?_)
 exact ⟨_, rfl, ownC_star (mem_pick (n := 5) (mem_pick (n := 5) (mem_pick (n := 5) (mem_pick (n := 5) (M) rfl) rfl) rfl) rfl).2, M.1⟩
end Go.Proofs.Ytbiplocgenppoaa
namespace Go.Proofs.Ytbiplocgenppoaa
open _root_.Go.Proofs.Try
open Go.RowKit
theorem th_def (c : Cat) (f g : Int) : at0 (row2 c.m f) g = c.th f g := rfl
def oppM (c : Cat) : Cat := ⟨c.ob, c.t, c.s, c.e, rowsTo (fun f => tabTo (fun g => c.th g f) c.s.length) c.s.length⟩
theorem specOp_any (w : World) (v : Value) (c : Cat) (h : RdC w v c) (hS : ShapeP c) :
  Calls Try.prog 101 #[v] w (RetC w (oppM c)) := by
 have h0 := h
 obtain ⟨va, vb, vc, vd, ve, vf, vg, vh, rfl, h1, h2, h3, h4, _⟩ := h.lists
 have hn40 := hS.n40; have htl := hS.tl; have hel := hS.el; have hob0 := hS.ob0; have hob8 := hS.ob8; have hml := hS.ml
 go_enter func101, Try.ntmps101
 refine gc_enter (N := 53) rfl (look_cons (k := 0) rfl (look_nil _)) ?_
 refine gc_sr fun K1 hK1 => ?_
 refine gop fun K3 hK3 => ?_
 refine go_box rfl rfl rfl rfl rfl ?_
 intro B2
 refine hK3 _ _ ?_
 refine gop fun K5 hK5 => ?_
 refine galC ?_
 intro B4
 refine hK5 _ _ ?_
 refine gnt (hK1 _ _ ?_)
 refine gc_seq fun K6 hK6 => ?_
 try simp only [sL]
 refine gc_cut ([(0, _), (1, _), (2, _)] : Env) (fun s : Nat × (Option Addr) × Nat × (Option Addr) × Nat × (Option Addr) × Nat × Nat => (fun (B : Nat) (a1 : Option Addr) (q1 : Nat) (a2 : Option Addr) (q2 : Nat) (a3 : Option Addr) (q3 : Nat) (B4 : Nat) => ([(3, .pointer (some ⟨B, 0, none⟩))] : Env)) s.1 s.2.1 s.2.2.1 s.2.2.2.1 s.2.2.2.2.1 s.2.2.2.2.2.1 s.2.2.2.2.2.2.1 s.2.2.2.2.2.2.2) (fun s : Nat × (Option Addr) × Nat × (Option Addr) × Nat × (Option Addr) × Nat × Nat => (fun (B : Nat) (a1 : Option Addr) (q1 : Nat) (a2 : Option Addr) (q2 : Nat) (a3 : Option Addr) (q3 : Nat) (B4 : Nat) => ([] : List (Nat × Itm))) s.1 s.2.1 s.2.2.1 s.2.2.2.1 s.2.2.2.2.1 s.2.2.2.2.2.1 s.2.2.2.2.2.2.1 s.2.2.2.2.2.2.2) (fun s : Nat × (Option Addr) × Nat × (Option Addr) × Nat × (Option Addr) × Nat × Nat => (fun (B : Nat) (a1 : Option Addr) (q1 : Nat) (a2 : Option Addr) (q2 : Nat) (a3 : Option Addr) (q3 : Nat) (B4 : Nat) => ([own1I (.slice a1 c.t.length q1) c.t, own1I (.slice a2 c.s.length q2) c.s, own1I (.slice a3 c.e.length q3) c.e, own2U (.slice (some ⟨B4, 0, none⟩) 0 0) [] [], bxI B 27 [.int .i64 c.ob, .slice a1 c.t.length q1, .slice a2 c.s.length q2, .slice a3 c.e.length q3, .slice (some ⟨B4, 0, none⟩) 0 0]] : List Itm)) s.1 s.2.1 s.2.2.1 s.2.2.2.1 s.2.2.2.2.1 s.2.2.2.2.2.1 s.2.2.2.2.2.2.1 s.2.2.2.2.2.2.2) (by repeat first | exact sub_nil | refine sub_cons rfl ?_) ?_ (fun HJ7 => ?_)
 ·rintro ⟨B, a1, q1, a2, q2, a3, q3, B4⟩
  simp only [sU, sL]
  refine gk_then (hK6 _ _ ?_)
  refine gc_seq fun K8 hK8 => ?_
  refine gc_sr fun K9 hK9 => ?_
  refine gas ?_
  refine gnt (hK9 _ _ ?_)
  refine gc_block ?_
  try simp only [sL]
  refine gc_loopT ([(0, _), (1, _), (2, _), (3, _)] : Env) (fun s : Nat × (Option Addr) × Nat × (List Value) => (fun (k : Nat) (a : Option Addr) (q : Nat) (us : List Value) => (([(4, .int .i64 (k : Int))] : Env), ([(5, own2U (.slice a (rowsTo (fun f => tabTo (fun g => c.th g f) c.s.length) k).length q) us (rowsTo (fun f => tabTo (fun g => c.th g f) c.s.length) k)), (6, bxI B 27 [.int .i64 c.ob, .slice a1 c.t.length q1, .slice a2 c.s.length q2, .slice a3 c.e.length q3, .slice a (rowsTo (fun f => tabTo (fun g => c.th g f) c.s.length) k).length q])] : List (Nat × Itm)), k ≤ c.s.length, c.s.length - k)) s.1 s.2.1 s.2.2.1 s.2.2.2) ((0, _, _, _)) (by repeat first | exact sub_nil | refine sub_cons rfl ?_) rfl (Nat.zero_le _) ?_
  rintro ⟨k, a, q, us⟩ hinv KL10 hKL10
  simp only [sU, sL] at hinv hKL10 ⊢
  have hk := hinv
  have hl := rowsTo_len (fun f => tabTo (fun g => c.th g f) c.s.length) k
  refine gc_seq fun K11 hK11 => ?_
  refine gc_sr fun K12 hK12 => ?_
  refine gm ?_
  refine gv (qtf underlying27 (z := 0) (off := 1)) ?_
  refine gv (qtl underlying24 (n := 0)) ?_
  refine gv (qln (fun w M => lenV_rd h1)) ?_
  refine gv (qt_lss rfl rfl rfl) ?_
  refine gnt (hK12 _ _ ?_)
  refine gc_cond rfl (fun hc0 => ?_) (fun hc0 => ?_)
  ·try simp only [sA] at hc0
   refine gc_skip ?_
   refine gk_then (hK11 _ _ ?_)
   refine gc_seq fun K13 hK13 => ?_
   refine gc_block ?_
   refine gc_sr fun K14 hK14 => ?_
   refine gop fun K16 hK16 => ?_
   refine go_slice0 rfl rfl rfl underlying24 ?_
   intro B15
   refine hK16 _ _ ?_
   refine gas ?_
   refine gnt (hK14 _ _ ?_)
   refine gc_seq fun K17 hK17 => ?_
   refine gc_sr fun K18 hK18 => ?_
   refine gas ?_
   refine gnt (hK18 _ _ ?_)
   refine gc_block ?_
   try simp only [sL]
   refine gc_loopT ([(0, _), (1, _), (2, _), (3, _), (4, _), (24, _)] : Env) (fun s : Nat × (Option Addr) × Nat => (fun (l : Nat) (b : Option Addr) (r : Nat) => (([(5, .slice b (tabTo (fun g => c.th g k) l).length r), (6, .int .i64 (l : Int))] : Env), ([(7, own1I (.slice b (tabTo (fun g => c.th g k) l).length r) (tabTo (fun g => c.th g k) l))] : List (Nat × Itm)), l ≤ c.s.length, c.s.length - l)) s.1 s.2.1 s.2.2) (0, _, _) (by repeat first | exact sub_nil | refine sub_cons rfl ?_) rfl (Nat.zero_le _) ?_
   rintro ⟨l, b, r⟩ hinv KL19 hKL19
   simp only [sU, sL] at hinv hKL19 ⊢
   have hl1 := hinv
   have hl2 := tabTo_len (fun g => c.th g k) l
   refine gc_seq fun K20 hK20 => ?_
   refine gc_sr fun K21 hK21 => ?_
   refine gm ?_
   refine gv (qtf underlying27 (z := 0) (off := 1)) ?_
   refine gv (qtl underlying24 (n := 0)) ?_
   refine gv (qln (fun w M => lenV_rd h1)) ?_
   refine gv (qt_lss rfl rfl rfl) ?_
   refine gnt (hK21 _ _ ?_)
   refine gc_cond rfl (fun hc1 => ?_) (fun hc1 => ?_)
   ·try simp only [sA] at hc1
    refine gc_skip ?_
    refine gk_then (hK20 _ _ ?_)
    refine gc_seq fun K22 hK22 => ?_
    refine gc_block ?_
    have hA := arrP hS (f := (l : Int)) (by omega) (by omega)
    have a3 := hA.fm; have a4 := hA.row
    refine gc_region ?_
    refine gm ?_
    refine gv (qtf underlying27 (z := 0) (off := 4)) ?_
    refine gv (qtl underlying25 (n := 0)) ?_
    refine gm ?_
    refine gv (qti2 (fun w M => lenA_rd2 h4)) ?_
    refine g_load2 (.free rfl) rfl rfl rfl rfl underlying24 rfl h4 (by omega) (by omega) ?_
    intro ra23 rc23 hr23
    refine gm ?_
    refine gv (qti (fun w M => lenA_rd hr23)) ?_
    refine gv (qtd (fun w M => mem_rd M hr23)) ?_
    refine gop fun K25 hK25 => ?_
    refine go_slice1 rfl rfl rfl rfl underlying24 ?_
    intro B24
    refine hK25 _ _ ?_
    refine gop fun K27 hK27 => ?_
    refine go_append (n := 7) (m := 8) rfl rfl rfl underlying24 rfl rfl rfl rfl (by omega) ?_
    intro va26 vc26
    refine hK27 _ _ ?_
    refine gas ?_
    refine g_nil ?_
    refine gk_block ?_
    refine gk_then (hK22 _ _ ?_)
    refine gc_region ?_
    refine gm ?_
    refine gv (qt_add rfl rfl rfl (by omega)) ?_
    refine gas ?_
    refine g_nil ?_
    simp only [th_def, tabTo_succ]
    refine gk_then (gk_take 8 ?_)
    refine gk_sub ?hs_28 (hKL19 (l + 1, _, _) ?hi_28 ?hm_28)
    case hs_28 => repeat first | exact sub_nil | refine sub_cons rfl ?_
    case hi_28 => omega
    case hm_28 => omega
   try simp only [sA] at hc1
   refine gc_exit ?_
   refine gk_then_exit ?_
   refine gk_then_exit ?_
   refine gk_block_hit ?_
   refine gk_then (hK17 _ _ ?_)
   refine gc_region ?_
   refine gv (qtf underlying27 (z := 0) (off := 4)) ?_
   refine gv (qtl underlying25 (n := 6)) ?_
   refine gm ?_
   refine gop fun K30 hK30 => ?_
   refine go_sliceR1 (m := 7) rfl rfl rfl rfl underlying25 rfl ?_
   intro B29
   refine hK30 _ _ ?_
   refine gop fun K32 hK32 => ?_
   refine go_appendRow (n := 5) (m := 7) (m' := 6) rfl rfl rfl underlying25 rfl rfl rfl rfl rfl (by omega) ?_
   intro va31 vc31
   refine hK32 _ _ ?_
   refine gv (qtf underlying27 (z := 0) (off := 4)) ?_
   refine gop fun K33 hK33 => ?_
   refine go_storeB (n := 6) rfl rfl rfl rfl (by kernel_rfl) rfl rfl rfl (by first | decide | simp) ?_
   refine hK33 _ _ ?_
   refine g_nil ?_
   refine gk_block ?_
   refine gk_then (hK13 _ _ ?_)
   refine gc_region ?_
   refine gm ?_
   refine gv (qt_add rfl rfl rfl (by omega)) ?_
   refine gas ?_
   refine g_nil ?_
   obtain rfl : l = c.s.length := by omega
   simp only [rowsTo_succ]
   refine gk_then (gk_take 7 ?_)
   refine gk_sub ?hs_34 (hKL10 (k + 1, _, _, _) ?hi_34 ?hm_34)
   case hs_34 => repeat first | exact sub_nil | refine sub_cons rfl ?_
   case hi_34 => omega
   case hm_34 => omega
  try simp only [sA] at hc0
  refine gc_exit ?_
  refine gk_then_exit ?_
  refine gk_then_exit ?_
  refine gk_block_hit ?_
  refine gk_then (hK8 _ _ ?_)
  refine gc_sr fun K35 hK35 => ?_
  refine gv (qts underlying27 (n := 6)) ?_
  refine gop fun K36 hK36 => ?_
  refine gss 1 ?_
  refine hK36 _ _ ?_
  refine gnt (hK35 _ _ ?_)
  refine gc_ret ?_
  refine ret_S (n := 1) rfl rfl underlying27 rfl (by kernel_rfl) rfl (fun w M => ?_)
  obtain rfl : k = c.s.length := by omega
  exact ⟨_, rfl, ownC_star (c := oppM c) (mem_pick (n := 5) (mem_pick (n := 5) (mem_pick (n := 5) (mem_pick (n := 5) (M) rfl) rfl) rfl) rfl).2, M.1⟩
 simp only [sU, sL] at HJ7
 refine ga_start _ (fun w M => M) ?_
 refine gav 0 rfl (qtf underlying27 (z := 0) (off := 0)) ?_
 refine gav 1 rfl (qtl underlying2 (n := 0)) ?_
 refine gav 2 rfl (qtf underlying27 (z := 0) (off := 2)) ?_
 refine gav 3 rfl (qtl underlying24 (n := 0)) ?_
 refine gav 5 rfl (qtf underlying27 (z := 0) (off := 1)) ?_
 refine gav 6 rfl (qtl underlying24 (n := 0)) ?_
 refine gav 8 rfl (qtf underlying27 (z := 0) (off := 3)) ?_
 refine gav 9 rfl (qtl underlying24 (n := 0)) ?_
 refine ga_three 4 11 13 (by kernel_rfl) rfl (.free rfl) rfl (.free rfl) rfl (.free rfl) (fun K37 hK37 => ?_) (fun K37 hK37 => ?_) (fun K37 hK37 => ?_)
 ·refine go_callL rfl rfl rfl func68 rfl (by decide) rfl (fun w M => specOwn_any w _ _ (mem_rd M h2)) ?_
  intro va38 vc38
  refine hK37 _ _ (fun w M => (mem_take 2 M :)) ?_
  refine ga_three 7 11 13 (by kernel_rfl) rfl (.free rfl) rfl (.free rfl) rfl (.free rfl) (fun K40 hK40 => ?_) (fun K40 hK40 => ?_) (fun K40 hK40 => ?_)
  ·refine go_callL rfl rfl rfl func68 rfl (by decide) rfl (fun w M => specOwn_any w _ _ (mem_rd M h1)) ?_
   intro va41 vc41
   refine hK40 _ _ (fun w M => (mem_take 2 M :)) ?_
   refine ga_three 10 11 13 (by kernel_rfl) rfl (.free rfl) rfl (.free rfl) rfl (.free rfl) (fun K43 hK43 => ?_) (fun K43 hK43 => ?_) (fun K43 hK43 => ?_)
   ·refine go_callL rfl rfl rfl func68 rfl (by decide) rfl (fun w M => specOwn_any w _ _ (mem_rd M h3)) ?_
    intro va44 vc44
    refine hK43 _ _ (fun w M => (mem_take 2 M :)) ?_
    refine gat 11 13 (fun K46 hK46 => ?_) (fun K46 hK46 => ?_)
    ·refine go_sliceR0 rfl rfl rfl underlying25 ?_
     intro B47
     refine hK46 _ _ (fun w M => (mem_take 2 M :)) ?_
     refine gav 12 rfl (qt_build rfl rfl bt_Category) ?_
     refine gao 13 fun K50 hK50 => ?_
     refine galC ?_
     intro B49
     refine hK50 _ _ (fun w M => (mem_take 2 M :)) ?_
     refine gao 14 fun K51 hK51 => ?_
     refine gss 6 ?_
     refine hK51 _ _ (fun w M => (mem_take 2 M :)) ?_
     refine ga_done (by kernel_rfl) ?_
     refine gk_pickL [0, 0, 0, 0, 0, 0, 0] ?_
     refine gk_sub ?hs_52 (HJ7 (_, _, _, _, _, _, _, _))
     case hs_52 => repeat first | exact sub_nil | refine sub_cons rfl ?_
    refine galC ?_
    intro B53
    refine hK46 _ _ (fun w M => (mem_take 2 M :)) ?_
    refine gao 11 fun K56 hK56 => ?_
    refine go_sliceR0 rfl rfl rfl underlying25 ?_
    intro B55
    refine hK56 _ _ (fun w M => (mem_take 2 M :)) ?_
    refine gav 12 rfl (qt_build rfl rfl bt_Category) ?_
    refine gao 14 fun K57 hK57 => ?_
    refine gss 5 ?_
    refine hK57 _ _ (fun w M => (mem_take 2 M :)) ?_
    refine ga_done (by kernel_rfl) ?_
    refine gk_pickL [0, 0, 0, 0, 0, 1, 0] ?_
    refine gk_sub ?hs_58 (HJ7 (_, _, _, _, _, _, _, _))
    case hs_58 => repeat first | exact sub_nil | refine sub_cons rfl ?_
   ·refine go_sliceR0 rfl rfl rfl underlying25 ?_
    intro B59
    refine hK43 _ _ (fun w M => (mem_take 2 M :)) ?_
    refine gat 10 13 (fun K61 hK61 => ?_) (fun K61 hK61 => ?_)
    ·refine go_callL rfl rfl rfl func68 rfl (by decide) rfl (fun w M => specOwn_any w _ _ (mem_rd M h3)) ?_
     intro va62 vc62
     refine hK61 _ _ (fun w M => (mem_take 2 M :)) ?_
     refine gav 12 rfl (qt_build rfl rfl bt_Category) ?_
     refine gao 13 fun K65 hK65 => ?_
     refine galC ?_
     intro B64
     refine hK65 _ _ (fun w M => (mem_take 2 M :)) ?_
     refine gao 14 fun K66 hK66 => ?_
     refine gss 6 ?_
     refine hK66 _ _ (fun w M => (mem_take 2 M :)) ?_
     refine ga_done (by kernel_rfl) ?_
     refine gk_pickL [0, 0, 0, 0, 1, 0, 0] ?_
     refine gk_sub ?hs_67 (HJ7 (_, _, _, _, _, _, _, _))
     case hs_67 => repeat first | exact sub_nil | refine sub_cons rfl ?_
    refine galC ?_
    intro B68
    refine hK61 _ _ (fun w M => (mem_take 2 M :)) ?_
    refine gao 10 fun K71 hK71 => ?_
    refine go_callL rfl rfl rfl func68 rfl (by decide) rfl (fun w M => specOwn_any w _ _ (mem_rd M h3)) ?_
    intro va70 vc70
    refine hK71 _ _ (fun w M => (mem_take 2 M :)) ?_
    refine gav 12 rfl (qt_build rfl rfl bt_Category) ?_
    refine gao 14 fun K72 hK72 => ?_
    refine gss 5 ?_
    refine hK72 _ _ (fun w M => (mem_take 2 M :)) ?_
    refine ga_done (by kernel_rfl) ?_
    refine gk_pickL [0, 0, 0, 0, 2, 0, 0] ?_
    refine gk_sub ?hs_73 (HJ7 (_, _, _, _, _, _, _, _))
    case hs_73 => repeat first | exact sub_nil | refine sub_cons rfl ?_
   refine galC ?_
   intro B74
   refine hK43 _ _ (fun w M => (mem_take 2 M :)) ?_
   refine gat 10 11 (fun K76 hK76 => ?_) (fun K76 hK76 => ?_)
   ·refine go_callL rfl rfl rfl func68 rfl (by decide) rfl (fun w M => specOwn_any w _ _ (mem_rd M h3)) ?_
    intro va77 vc77
    refine hK76 _ _ (fun w M => (mem_take 2 M :)) ?_
    refine gao 11 fun K80 hK80 => ?_
    refine go_sliceR0 rfl rfl rfl underlying25 ?_
    intro B79
    refine hK80 _ _ (fun w M => (mem_take 2 M :)) ?_
    refine gav 12 rfl (qt_build rfl rfl bt_Category) ?_
    refine gao 14 fun K81 hK81 => ?_
    refine gss 4 ?_
    refine hK81 _ _ (fun w M => (mem_take 2 M :)) ?_
    refine ga_done (by kernel_rfl) ?_
    refine gk_pickL [0, 0, 0, 0, 1, 1, 0] ?_
    refine gk_sub ?hs_82 (HJ7 (_, _, _, _, _, _, _, _))
    case hs_82 => repeat first | exact sub_nil | refine sub_cons rfl ?_
   refine go_sliceR0 rfl rfl rfl underlying25 ?_
   intro B83
   refine hK76 _ _ (fun w M => (mem_take 2 M :)) ?_
   refine gao 10 fun K86 hK86 => ?_
   refine go_callL rfl rfl rfl func68 rfl (by decide) rfl (fun w M => specOwn_any w _ _ (mem_rd M h3)) ?_
   intro va85 vc85
   refine hK86 _ _ (fun w M => (mem_take 2 M :)) ?_
   refine gav 12 rfl (qt_build rfl rfl bt_Category) ?_
   refine gao 14 fun K87 hK87 => ?_
   refine gss 4 ?_
   refine hK87 _ _ (fun w M => (mem_take 2 M :)) ?_
   refine ga_done (by kernel_rfl) ?_
   refine gk_pickL [0, 0, 0, 0, 2, 1, 0] ?_
   refine gk_sub ?hs_88 (HJ7 (_, _, _, _, _, _, _, _))
   case hs_88 => repeat first | exact sub_nil | refine sub_cons rfl ?_
  ·refine go_sliceR0 rfl rfl rfl underlying25 ?_
   intro B89
   refine hK40 _ _ (fun w M => (mem_take 2 M :)) ?_
   refine gat 7 13 (fun K91 hK91 => ?_) (fun K91 hK91 => ?_)
   ·refine go_callL rfl rfl rfl func68 rfl (by decide) rfl (fun w M => specOwn_any w _ _ (mem_rd M h1)) ?_
    intro va92 vc92
    refine hK91 _ _ (fun w M => (mem_take 2 M :)) ?_
    refine gat 10 13 (fun K94 hK94 => ?_) (fun K94 hK94 => ?_)
    ·refine go_callL rfl rfl rfl func68 rfl (by decide) rfl (fun w M => specOwn_any w _ _ (mem_rd M h3)) ?_
     intro va95 vc95
     refine hK94 _ _ (fun w M => (mem_take 2 M :)) ?_
     refine gav 12 rfl (qt_build rfl rfl bt_Category) ?_
     refine gao 13 fun K98 hK98 => ?_
     refine galC ?_
     intro B97
     refine hK98 _ _ (fun w M => (mem_take 2 M :)) ?_
     refine gao 14 fun K99 hK99 => ?_
     refine gss 6 ?_
     refine hK99 _ _ (fun w M => (mem_take 2 M :)) ?_
     refine ga_done (by kernel_rfl) ?_
     refine gk_pickL [0, 0, 0, 1, 1, 0, 0] ?_
     refine gk_sub ?hs_100 (HJ7 (_, _, _, _, _, _, _, _))
     case hs_100 => repeat first | exact sub_nil | refine sub_cons rfl ?_
    refine galC ?_
    intro B101
    refine hK94 _ _ (fun w M => (mem_take 2 M :)) ?_
    refine gao 10 fun K104 hK104 => ?_
    refine go_callL rfl rfl rfl func68 rfl (by decide) rfl (fun w M => specOwn_any w _ _ (mem_rd M h3)) ?_
    intro va103 vc103
    refine hK104 _ _ (fun w M => (mem_take 2 M :)) ?_
    refine gav 12 rfl (qt_build rfl rfl bt_Category) ?_
    refine gao 14 fun K105 hK105 => ?_
    refine gss 5 ?_
    refine hK105 _ _ (fun w M => (mem_take 2 M :)) ?_
    refine ga_done (by kernel_rfl) ?_
    refine gk_pickL [0, 0, 0, 1, 2, 0, 0] ?_
    refine gk_sub ?hs_106 (HJ7 (_, _, _, _, _, _, _, _))
    case hs_106 => repeat first | exact sub_nil | refine sub_cons rfl ?_
   refine galC ?_
   intro B107
   refine hK91 _ _ (fun w M => (mem_take 2 M :)) ?_
   refine gao 7 fun K110 hK110 => ?_
   refine go_callL rfl rfl rfl func68 rfl (by decide) rfl (fun w M => specOwn_any w _ _ (mem_rd M h1)) ?_
   intro va109 vc109
   refine hK110 _ _ (fun w M => (mem_take 2 M :)) ?_
   refine gao 10 fun K112 hK112 => ?_
   refine go_callL rfl rfl rfl func68 rfl (by decide) rfl (fun w M => specOwn_any w _ _ (mem_rd M h3)) ?_
   intro va111 vc111
   refine hK112 _ _ (fun w M => (mem_take 2 M :)) ?_
   refine gav 12 rfl (qt_build rfl rfl bt_Category) ?_
   refine gao 14 fun K113 hK113 => ?_
   refine gss 4 ?_
   refine hK113 _ _ (fun w M => (mem_take 2 M :)) ?_
   refine ga_done (by kernel_rfl) ?_
   refine gk_pickL [0, 0, 0, 2, 2, 0, 0] ?_
   refine gk_sub ?hs_114 (HJ7 (_, _, _, _, _, _, _, _))
   case hs_114 => repeat first | exact sub_nil | refine sub_cons rfl ?_
  refine galC ?_
  intro B115
  refine hK40 _ _ (fun w M => (mem_take 2 M :)) ?_
  refine gat 7 11 (fun K117 hK117 => ?_) (fun K117 hK117 => ?_)
  ·refine go_callL rfl rfl rfl func68 rfl (by decide) rfl (fun w M => specOwn_any w _ _ (mem_rd M h1)) ?_
   intro va118 vc118
   refine hK117 _ _ (fun w M => (mem_take 2 M :)) ?_
   refine gat 10 11 (fun K120 hK120 => ?_) (fun K120 hK120 => ?_)
   ·refine go_callL rfl rfl rfl func68 rfl (by decide) rfl (fun w M => specOwn_any w _ _ (mem_rd M h3)) ?_
    intro va121 vc121
    refine hK120 _ _ (fun w M => (mem_take 2 M :)) ?_
    refine gao 11 fun K124 hK124 => ?_
    refine go_sliceR0 rfl rfl rfl underlying25 ?_
    intro B123
    refine hK124 _ _ (fun w M => (mem_take 2 M :)) ?_
    refine gav 12 rfl (qt_build rfl rfl bt_Category) ?_
    refine gao 14 fun K125 hK125 => ?_
    refine gss 3 ?_
    refine hK125 _ _ (fun w M => (mem_take 2 M :)) ?_
    refine ga_done (by kernel_rfl) ?_
    refine gk_pickL [0, 0, 0, 1, 1, 1, 0] ?_
    refine gk_sub ?hs_126 (HJ7 (_, _, _, _, _, _, _, _))
    case hs_126 => repeat first | exact sub_nil | refine sub_cons rfl ?_
   refine go_sliceR0 rfl rfl rfl underlying25 ?_
   intro B127
   refine hK120 _ _ (fun w M => (mem_take 2 M :)) ?_
   refine gao 10 fun K130 hK130 => ?_
   refine go_callL rfl rfl rfl func68 rfl (by decide) rfl (fun w M => specOwn_any w _ _ (mem_rd M h3)) ?_
   intro va129 vc129
   refine hK130 _ _ (fun w M => (mem_take 2 M :)) ?_
   refine gav 12 rfl (qt_build rfl rfl bt_Category) ?_
   refine gao 14 fun K131 hK131 => ?_
   refine gss 3 ?_
   refine hK131 _ _ (fun w M => (mem_take 2 M :)) ?_
   refine ga_done (by kernel_rfl) ?_
   refine gk_pickL [0, 0, 0, 1, 2, 1, 0] ?_
   refine gk_sub ?hs_132 (HJ7 (_, _, _, _, _, _, _, _))
   case hs_132 => repeat first | exact sub_nil | refine sub_cons rfl ?_
  refine go_sliceR0 rfl rfl rfl underlying25 ?_
  intro B133
  refine hK117 _ _ (fun w M => (mem_take 2 M :)) ?_
  refine gao 7 fun K136 hK136 => ?_
  refine go_callL rfl rfl rfl func68 rfl (by decide) rfl (fun w M => specOwn_any w _ _ (mem_rd M h1)) ?_
  intro va135 vc135
  refine hK136 _ _ (fun w M => (mem_take 2 M :)) ?_
  refine gao 10 fun K138 hK138 => ?_
  refine go_callL rfl rfl rfl func68 rfl (by decide) rfl (fun w M => specOwn_any w _ _ (mem_rd M h3)) ?_
  intro va137 vc137
  refine hK138 _ _ (fun w M => (mem_take 2 M :)) ?_
  refine gav 12 rfl (qt_build rfl rfl bt_Category) ?_
  refine gao 14 fun K139 hK139 => ?_
  refine gss 3 ?_
  refine hK139 _ _ (fun w M => (mem_take 2 M :)) ?_
  refine ga_done (by kernel_rfl) ?_
  refine gk_pickL [0, 0, 0, 2, 2, 1, 0] ?_
  refine gk_sub ?hs_140 (HJ7 (_, _, _, _, _, _, _, _))
  case hs_140 => repeat first | exact sub_nil | refine sub_cons rfl ?_
 ·refine go_sliceR0 rfl rfl rfl underlying25 ?_
  intro B141
  refine hK37 _ _ (fun w M => (mem_take 2 M :)) ?_
  refine gat 4 13 (fun K143 hK143 => ?_) (fun K143 hK143 => ?_)
  ·refine go_callL rfl rfl rfl func68 rfl (by decide) rfl (fun w M => specOwn_any w _ _ (mem_rd M h2)) ?_
   intro va144 vc144
   refine hK143 _ _ (fun w M => (mem_take 2 M :)) ?_
   refine gat 7 13 (fun K146 hK146 => ?_) (fun K146 hK146 => ?_)
   ·refine go_callL rfl rfl rfl func68 rfl (by decide) rfl (fun w M => specOwn_any w _ _ (mem_rd M h1)) ?_
    intro va147 vc147
    refine hK146 _ _ (fun w M => (mem_take 2 M :)) ?_
    refine gat 10 13 (fun K149 hK149 => ?_) (fun K149 hK149 => ?_)
    ·refine go_callL rfl rfl rfl func68 rfl (by decide) rfl (fun w M => specOwn_any w _ _ (mem_rd M h3)) ?_
     intro va150 vc150
     refine hK149 _ _ (fun w M => (mem_take 2 M :)) ?_
     refine gav 12 rfl (qt_build rfl rfl bt_Category) ?_
     refine gao 13 fun K153 hK153 => ?_
     refine galC ?_
     intro B152
     refine hK153 _ _ (fun w M => (mem_take 2 M :)) ?_
     refine gao 14 fun K154 hK154 => ?_
     refine gss 6 ?_
     refine hK154 _ _ (fun w M => (mem_take 2 M :)) ?_
     refine ga_done (by kernel_rfl) ?_
     refine gk_pickL [0, 0, 1, 1, 1, 0, 0] ?_
     refine gk_sub ?hs_155 (HJ7 (_, _, _, _, _, _, _, _))
     case hs_155 => repeat first | exact sub_nil | refine sub_cons rfl ?_
    refine galC ?_
    intro B156
    refine hK149 _ _ (fun w M => (mem_take 2 M :)) ?_
    refine gao 10 fun K159 hK159 => ?_
    refine go_callL rfl rfl rfl func68 rfl (by decide) rfl (fun w M => specOwn_any w _ _ (mem_rd M h3)) ?_
    intro va158 vc158
    refine hK159 _ _ (fun w M => (mem_take 2 M :)) ?_
    refine gav 12 rfl (qt_build rfl rfl bt_Category) ?_
    refine gao 14 fun K160 hK160 => ?_
    refine gss 5 ?_
    refine hK160 _ _ (fun w M => (mem_take 2 M :)) ?_
    refine ga_done (by kernel_rfl) ?_
    refine gk_pickL [0, 0, 1, 1, 2, 0, 0] ?_
    refine gk_sub ?hs_161 (HJ7 (_, _, _, _, _, _, _, _))
    case hs_161 => repeat first | exact sub_nil | refine sub_cons rfl ?_
   refine galC ?_
   intro B162
   refine hK146 _ _ (fun w M => (mem_take 2 M :)) ?_
   refine gao 7 fun K165 hK165 => ?_
   refine go_callL rfl rfl rfl func68 rfl (by decide) rfl (fun w M => specOwn_any w _ _ (mem_rd M h1)) ?_
   intro va164 vc164
   refine hK165 _ _ (fun w M => (mem_take 2 M :)) ?_
   refine gao 10 fun K167 hK167 => ?_
   refine go_callL rfl rfl rfl func68 rfl (by decide) rfl (fun w M => specOwn_any w _ _ (mem_rd M h3)) ?_
   intro va166 vc166
   refine hK167 _ _ (fun w M => (mem_take 2 M :)) ?_
   refine gav 12 rfl (qt_build rfl rfl bt_Category) ?_
   refine gao 14 fun K168 hK168 => ?_
   refine gss 4 ?_
   refine hK168 _ _ (fun w M => (mem_take 2 M :)) ?_
   refine ga_done (by kernel_rfl) ?_
   refine gk_pickL [0, 0, 1, 2, 2, 0, 0] ?_
   refine gk_sub ?hs_169 (HJ7 (_, _, _, _, _, _, _, _))
   case hs_169 => repeat first | exact sub_nil | refine sub_cons rfl ?_
  refine galC ?_
  intro B170
  refine hK143 _ _ (fun w M => (mem_take 2 M :)) ?_
  refine gao 4 fun K173 hK173 => ?_
  refine go_callL rfl rfl rfl func68 rfl (by decide) rfl (fun w M => specOwn_any w _ _ (mem_rd M h2)) ?_
  intro va172 vc172
  refine hK173 _ _ (fun w M => (mem_take 2 M :)) ?_
  refine gao 7 fun K175 hK175 => ?_
  refine go_callL rfl rfl rfl func68 rfl (by decide) rfl (fun w M => specOwn_any w _ _ (mem_rd M h1)) ?_
  intro va174 vc174
  refine hK175 _ _ (fun w M => (mem_take 2 M :)) ?_
  refine gao 10 fun K177 hK177 => ?_
  refine go_callL rfl rfl rfl func68 rfl (by decide) rfl (fun w M => specOwn_any w _ _ (mem_rd M h3)) ?_
  intro va176 vc176
  refine hK177 _ _ (fun w M => (mem_take 2 M :)) ?_
  refine gav 12 rfl (qt_build rfl rfl bt_Category) ?_
  refine gao 14 fun K178 hK178 => ?_
  refine gss 3 ?_
  refine hK178 _ _ (fun w M => (mem_take 2 M :)) ?_
  refine ga_done (by kernel_rfl) ?_
  refine gk_pickL [0, 0, 2, 2, 2, 0, 0] ?_
  refine gk_sub ?hs_179 (HJ7 (_, _, _, _, _, _, _, _))
  case hs_179 => repeat first | exact sub_nil | refine sub_cons rfl ?_
 refine galC ?_
 intro B180
 refine hK37 _ _ (fun w M => (mem_take 2 M :)) ?_
 refine gat 4 11 (fun K182 hK182 => ?_) (fun K182 hK182 => ?_)
 ·refine go_callL rfl rfl rfl func68 rfl (by decide) rfl (fun w M => specOwn_any w _ _ (mem_rd M h2)) ?_
  intro va183 vc183
  refine hK182 _ _ (fun w M => (mem_take 2 M :)) ?_
  refine gat 7 11 (fun K185 hK185 => ?_) (fun K185 hK185 => ?_)
  ·refine go_callL rfl rfl rfl func68 rfl (by decide) rfl (fun w M => specOwn_any w _ _ (mem_rd M h1)) ?_
   intro va186 vc186
   refine hK185 _ _ (fun w M => (mem_take 2 M :)) ?_
   refine gat 10 11 (fun K188 hK188 => ?_) (fun K188 hK188 => ?_)
   ·refine go_callL rfl rfl rfl func68 rfl (by decide) rfl (fun w M => specOwn_any w _ _ (mem_rd M h3)) ?_
    intro va189 vc189
    refine hK188 _ _ (fun w M => (mem_take 2 M :)) ?_
    refine gao 11 fun K192 hK192 => ?_
    refine go_sliceR0 rfl rfl rfl underlying25 ?_
    intro B191
    refine hK192 _ _ (fun w M => (mem_take 2 M :)) ?_
    refine gav 12 rfl (qt_build rfl rfl bt_Category) ?_
    refine gao 14 fun K193 hK193 => ?_
    refine gss 2 ?_
    refine hK193 _ _ (fun w M => (mem_take 2 M :)) ?_
    refine ga_done (by kernel_rfl) ?_
    refine gk_pickL [0, 0, 1, 1, 1, 1, 0] ?_
    refine gk_sub ?hs_194 (HJ7 (_, _, _, _, _, _, _, _))
    case hs_194 => repeat first | exact sub_nil | refine sub_cons rfl ?_
   refine go_sliceR0 rfl rfl rfl underlying25 ?_
   intro B195
   refine hK188 _ _ (fun w M => (mem_take 2 M :)) ?_
   refine gao 10 fun K198 hK198 => ?_
   refine go_callL rfl rfl rfl func68 rfl (by decide) rfl (fun w M => specOwn_any w _ _ (mem_rd M h3)) ?_
   intro va197 vc197
   refine hK198 _ _ (fun w M => (mem_take 2 M :)) ?_
   refine gav 12 rfl (qt_build rfl rfl bt_Category) ?_
   refine gao 14 fun K199 hK199 => ?_
   refine gss 2 ?_
   refine hK199 _ _ (fun w M => (mem_take 2 M :)) ?_
   refine ga_done (by kernel_rfl) ?_
   refine gk_pickL [0, 0, 1, 1, 2, 1, 0] ?_
   refine gk_sub ?hs_200 (HJ7 (_, _, _, _, _, _, _, _))
   case hs_200 => repeat first | exact sub_nil | refine sub_cons rfl ?_
  refine go_sliceR0 rfl rfl rfl underlying25 ?_
  intro B201
  refine hK185 _ _ (fun w M => (mem_take 2 M :)) ?_
  refine gao 7 fun K204 hK204 => ?_
  refine go_callL rfl rfl rfl func68 rfl (by decide) rfl (fun w M => specOwn_any w _ _ (mem_rd M h1)) ?_
  intro va203 vc203
  refine hK204 _ _ (fun w M => (mem_take 2 M :)) ?_
  refine gao 10 fun K206 hK206 => ?_
  refine go_callL rfl rfl rfl func68 rfl (by decide) rfl (fun w M => specOwn_any w _ _ (mem_rd M h3)) ?_
  intro va205 vc205
  refine hK206 _ _ (fun w M => (mem_take 2 M :)) ?_
  refine gav 12 rfl (qt_build rfl rfl bt_Category) ?_
  refine gao 14 fun K207 hK207 => ?_
  refine gss 2 ?_
  refine hK207 _ _ (fun w M => (mem_take 2 M :)) ?_
  refine ga_done (by kernel_rfl) ?_
  refine gk_pickL [0, 0, 1, 2, 2, 1, 0] ?_
  refine gk_sub ?hs_208 (HJ7 (_, _, _, _, _, _, _, _))
  case hs_208 => repeat first | exact sub_nil | refine sub_cons rfl ?_
 refine go_sliceR0 rfl rfl rfl underlying25 ?_
 intro B209
 refine hK182 _ _ (fun w M => (mem_take 2 M :)) ?_
 refine gao 4 fun K212 hK212 => ?_
 refine go_callL rfl rfl rfl func68 rfl (by decide) rfl (fun w M => specOwn_any w _ _ (mem_rd M h2)) ?_
 intro va211 vc211
 refine hK212 _ _ (fun w M => (mem_take 2 M :)) ?_
 refine gao 7 fun K214 hK214 => ?_
 refine go_callL rfl rfl rfl func68 rfl (by decide) rfl (fun w M => specOwn_any w _ _ (mem_rd M h1)) ?_
 intro va213 vc213
 refine hK214 _ _ (fun w M => (mem_take 2 M :)) ?_
 refine gao 10 fun K216 hK216 => ?_
 refine go_callL rfl rfl rfl func68 rfl (by decide) rfl (fun w M => specOwn_any w _ _ (mem_rd M h3)) ?_
 intro va215 vc215
 refine hK216 _ _ (fun w M => (mem_take 2 M :)) ?_
 refine gav 12 rfl (qt_build rfl rfl bt_Category) ?_
 refine gao 14 fun K217 hK217 => ?_
 refine gss 2 ?_
 refine hK217 _ _ (fun w M => (mem_take 2 M :)) ?_
 refine ga_done (by kernel_rfl) ?_
 refine gk_pickL [0, 0, 2, 2, 2, 1, 0] ?_
 refine gk_sub ?hs_218 (HJ7 (_, _, _, _, _, _, _, _))
 case hs_218 => repeat first | exact sub_nil | refine sub_cons rfl ?_
end Go.Proofs.Ytbiplocgenppoaa
namespace Go.Proofs.Ytbiplocgenppoaa
open _root_.Go.Proofs.Try
open Go.RowKit
theorem allP_ext {n : Int} {l : List Int} (h : ∀ k : Nat, k < l.length → 0 ≤ at0 l (k : Int) ∧ at0 l (k : Int) < n) : AllP n l := fun x hx => by
  obtain ⟨k, hk, rfl⟩ := List.getElem_of_mem hx
  have := h k hk
  rw [at0_nat, List.getD_eq_getElem?_getD, List.getElem?_eq_getElem hk] at this
  exact this
theorem shape_by {c : Cat} {N m : Nat} {S T E : Nat → Int} {M : Nat → Nat → Int} (hob : c.ob = (N : Int)) (hn : N ≤ 8) (hm : m ≤ 40) (ls : c.s.length = m) (lt : c.t.length = m) (le : c.e.length = N) (lm : c.m.length = m)
    (lr : ∀ f : Nat, f < m → (row2 c.m (f : Int)).length = m) (hS : ∀ f : Nat, f < m → at0 c.s (f : Int) = S f) (hT : ∀ f : Nat, f < m → at0 c.t (f : Int) = T f) (hE : ∀ x : Nat, x < N → at0 c.e (x : Int) = E x) (hM : ∀ f g : Nat, f < m → g < m → at0 (row2 c.m (f : Int)) (g : Int) = M f g)
    (rS : ∀ f : Nat, f < m → 0 ≤ S f ∧ S f < N) (rT : ∀ f : Nat, f < m → 0 ≤ T f ∧ T f < N) (hid : ∀ x : Nat, x < N → 0 ≤ E x ∧ E x < m ∧ S (E x).toNat = x ∧ T (E x).toNat = x)
    (hco : ∀ f g : Nat, f < m → g < m → (T f = S g → 0 ≤ M f g ∧ M f g < m ∧ S (M f g).toNat = S f ∧ T (M f g).toNat = T g) ∧ (T f ≠ S g → M f g = -1)) : ShapeP c where
  ob0 := by omega
  ob8 := by omega
  n40 := by omega
  el := by omega
  tl := by omega
  ml := by omega
  rl j hj := by
    have := lr j (by omega)
    rw [row2_of, Int.toNat_natCast] at this
    omega
  sa := allP_ext fun k hk => by rw [hS k (by omega), hob]; exact rS k (by omega)
  ta := allP_ext fun k hk => by rw [hT k (by omega), hob]; exact rT k (by omega)
  id x hx := by
    have h := hid x (by omega)
    have hk : ((E x).toNat : Int) = E x := Int.toNat_of_nonneg h.1
    unfold okIdent Cat.arr
    rw [hE x (by omega), ls]
    refine ⟨⟨h.1, h.2.1⟩, ?_, ?_⟩
    · rw [← hk, hS _ (by omega)]; exact h.2.2.1
    rw [← hk, hT _ (by omega)]; exact h.2.2.2
  co f g hf hg := by
    have h := hco f g (by omega) (by omega)
    unfold okComp Cat.arr Cat.th
    rw [hM f g (by omega) (by omega), hS f (by omega), hS g (by omega), hT f (by omega), hT g (by omega), ls]
    refine ⟨fun he => ?_, h.2⟩
    have h := h.1 he
    have hk : ((M f g).toNat : Int) = M f g := Int.toNat_of_nonneg h.1
    refine ⟨⟨h.1, h.2.1⟩, ?_, ?_⟩
    · rw [← hk, hS _ (by omega)]; exact h.2.2.1
    rw [← hk, hT _ (by omega)]; exact h.2.2.2
theorem shape_id {c : Cat} (hS : ShapeP c) {x : Nat} (hx : x < c.e.length) : ∃ k : Nat, at0 c.e (x : Int) = (k : Int) ∧ k < c.s.length ∧ at0 c.s (k : Int) = x ∧ at0 c.t (k : Int) = x := by
  obtain ⟨⟨h0, h1⟩, h2, h3⟩ := hS.id x hx
  obtain ⟨k, hk⟩ := Int.eq_ofNat_of_zero_le h0
  rw [hk] at h1 h2 h3
  exact ⟨k, hk, by omega, h2, h3⟩
theorem shape_co {c : Cat} (hS : ShapeP c) {f g : Nat} (hf : f < c.s.length) (hg : g < c.s.length) (h : at0 c.t (f : Int) = at0 c.s (g : Int)) : ∃ k : Nat, at0 (row2 c.m (f : Int)) (g : Int) = (k : Int) ∧ k < c.s.length ∧ at0 c.s (k : Int) = at0 c.s (f : Int) ∧ at0 c.t (k : Int) = at0 c.t (g : Int) := by
  obtain ⟨⟨h0, h1⟩, h2, h3⟩ := (hS.co f g hf hg).1 h
  obtain ⟨k, hk⟩ := Int.eq_ofNat_of_zero_le h0
  rw [hk] at h1 h2 h3
  exact ⟨k, hk, by omega, h2, h3⟩
theorem opp_shape {c : Cat} (hS : ShapeP c) : ShapeP (oppM c) := by
  have ob0 := hS.ob0; have ob8 := hS.ob8; have n40 := hS.n40; have el := hS.el; have tl := hS.tl
  refine shape_by (N := c.ob.toNat) (m := c.s.length) (S := fun f => at0 c.t (f : Int)) (T := fun f => at0 c.s (f : Int)) (E := fun x => at0 c.e (x : Int)) (M := fun f g => at0 (row2 c.m (g : Int)) (f : Int)) (by show c.ob = _; omega) (by omega) n40 tl rfl (by show c.e.length = _; omega) (rowsTo_len _ _)
    (fun f hf => by show (row2 (rowsTo _ _) _).length = _; rw [rowsTo_at _ hf, tabTo_len]) (fun f hf => rfl) (fun f hf => rfl) (fun x hx => rfl) (fun f g hf hg => by show at0 (row2 (rowsTo _ _) _) _ = _; rw [rowsTo_at _ hf, tabTo_at _ hg]; rfl)
    (fun f hf => by have := allP_at hS.ta (k := f) (by omega); omega) (fun f hf => by have := allP_at hS.sa (k := f) (by omega); omega) (fun x hx => ?_) (fun f g hf hg => ?_)
  · obtain ⟨k, hk, h1, h2, h3⟩ := shape_id hS (x := x) (by omega)
    rw [hk, Int.toNat_natCast]
    exact ⟨by omega, by omega, h3, h2⟩
  refine ⟨fun he => ?_, fun he => ?_⟩
  · obtain ⟨k, hk, h1, h2, h3⟩ := shape_co hS hg hf he.symm
    rw [hk, Int.toNat_natCast]
    exact ⟨by omega, by omega, h3, h2⟩
  exact (hS.co g f hg hf).2 fun e => he e.symm
end Go.Proofs.Ytbiplocgenppoaa
namespace Go.Proofs.Ytbiplocgenppoaa
open _root_.Go.Proofs.Try
open Go.RowKit
end Go.Proofs.Ytbiplocgenppoaa
