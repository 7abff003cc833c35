import Derived.Test.YtbiplocgenppoaaC4
import Derived.Test.YtbiplocgenppoaaC10
import Derived.Test.YtbiplocgenppoaaC9
set_option maxHeartbeats 1000000
set_option maxRecDepth 100000
set_option linter.unusedSimpArgs false
set_option linter.unusedVariables false
set_option linter.unusedSectionVars false
namespace Go.Proofs.Ytbiplocgenppoaa
open _root_.Go.Proofs.Try
open Go.RowKit
section
variable {α : Type} [Inhabited α]
theorem atE_mem {es : List (Ent α)} {k : Nat} (h : k < es.length) : atE es (k : Int) ∈ es := by
 simp only [atE, Int.toNat_natCast, List.getD_eq_getElem?_getD, List.getElem?_eq_getElem h, Option.getD_some]; exact List.getElem_mem h
theorem atE_eq {es : List (Ent α)} {k : Nat} (h : k < es.length) : atE es (k : Int) = es[k] := by
 simp [atE, List.getD_eq_getElem?_getD, List.getElem?_eq_getElem h]
theorem takeE_succ {es : List (Ent α)} {k : Nat} (h : k < es.length) : es.take k ++ [((atE es (k : Int)).1, (atE es (k : Int)).2.1, (atE es (k : Int)).2.2)] = es.take (k + 1) := by
 rw [List.take_succ_eq_append_getElem h, ← atE_eq h]
theorem takeE_not {es : List (Ent α)} (hn : es.Nodup) {k : Nat} (h : k < es.length) : ((atE es (k : Int)).1, (atE es (k : Int)).2.1, (atE es (k : Int)).2.2) ∉ es.take k := by
 intro hm
 have he : ((atE es (k : Int)).1, (atE es (k : Int)).2.1, (atE es (k : Int)).2.2) = es[k] := by rw [← atE_eq h]
 rw [he] at hm
 obtain ⟨j, hj, he2⟩ := List.getElem_of_mem hm
 simp only [List.length_take] at hj
 rw [List.getElem_take] at he2
 exact List.pairwise_iff_getElem.1 hn j k (by omega) h (by omega) he2
variable [DecidableEq α]
noncomputable def cellE (es : List (Ent α)) (th : α → α → α) (f g : Ent α) : Int := if f.2.1 = g.1 then posE es (f.1, g.2.1, th f.2.2 g.2.2) else -1
noncomputable def rowE (es : List (Ent α)) (th : α → α → α) (f : Ent α) : List Int := tabTo (fun j => cellE es th f (atE es (j : Int))) es.length
theorem rowE_eta (es fs : List (Ent α)) (th : α → α → α) (k : Int) : rowE es th ((atE fs k).1, (atE fs k).2.1, (atE fs k).2.2) = rowE es th (atE fs k) := rfl
noncomputable def buildE (n : Int) (es : List (Ent α)) (u : Nat → α) (th : α → α → α) : Cat :=
 ⟨n, tabTo (fun i => (atE es (i : Int)).1) es.length, tabTo (fun i => (atE es (i : Int)).2.1) es.length, tabTo (fun x => posE es ((x : Int), (x : Int), u x)) n.toNat, rowsTo (fun i => rowE es th (atE es (i : Int))) es.length⟩
noncomputable def madeE (n : Int) (es : List (Ent α)) (u : Nat → α) (th : α → α → α) : Cat := if n ≤ 8 ∧ es.length ≤ 40 then buildE n es u th else cat0
noncomputable def madeEc (n : Int) (es : List (Ent α)) : Int := if n ≤ 8 ∧ es.length ≤ 40 then 0 else 3
theorem madeE_t {n : Int} {es : List (Ent α)} {u : Nat → α} {th : α → α → α} (h : n ≤ 8) (h' : es.length ≤ 40) : madeE n es u th = buildE n es u th ∧ madeEc n es = 0 := ⟨if_pos ⟨h, h'⟩, if_pos ⟨h, h'⟩⟩
theorem madeE_f {n : Int} {es : List (Ent α)} {u : Nat → α} {th : α → α → α} (h : ¬ (n ≤ 8 ∧ es.length ≤ 40)) : madeE n es u th = cat0 ∧ madeEc n es = 3 := ⟨if_neg h, if_neg h⟩
end
theorem takeE_len {α : Type} {es : List (Ent α)} {k : Nat} (h : k < es.length) : (k : Int) = (es.take k).length := by simp; omega
theorem fillTo_set' {φ : Nat → Int} {n k : Nat} {v : Int} (h : k < n) (hv : φ k = v) : (fillTo φ n k).set ((k : Int)).toNat v = fillTo φ n (k + 1) := by subst hv; exact fillTo_set φ h
end Go.Proofs.Ytbiplocgenppoaa
namespace Go.Proofs.Ytbiplocgenppoaa
open _root_.Go.Proofs.Try
open Go.RowKit
def BxV (w : World) (B : Nat) (t : TypeId) (v : Value) : Prop := w.heap[B]? = some (.cells v.cells t (0, 0))
theorem bxV_below {w w' : World} {B : Nat} {t : TypeId} {v : Value} (hb : Below w.heap.size w w') (h : BxV w B t v) : BxV w' B t v := by
  unfold BxV at h ⊢
  rw [hb.block B (Array.getElem?_eq_some_iff.1 h).1]; exact h
section
variable {w0 : World} {is : List Itm} {o : Oper} {e : Env} {v : Value}
theorem mem_bxR {w : World} {B : Nat} {t : TypeId} {cs : List Value} (M : Mem w0 w is) (h : BxV w0 B t (.agg cs.toArray)) : Bx w B t cs := bxV_below M.1 h
theorem bxV_of {w : World} {n B : Nat} {t : TypeId} {cs : List Value} (M : Mem w0 w is) (h : is[n]? = some (bxI B t cs)) : BxV w B t (.agg cs.toArray) := mem_bx M h
theorem qt_loadRB {x : Operand} {t tb : TypeId} {B j : Nat} {cs : List Value} {td : TypeDesc} (hb : BxV w0 B tb (.agg cs.toArray)) (hop : o.op = .load t x) (hx : evo e x = some (.pointer (some ⟨B, j, none⟩))) (ht : Try.prog.underlying t = some td) (hd : aggT td = false)
    (hv : cs[j]? = some v) : QV w0 is o e v :=
  fun w ac M F => by
    have hx := F _ _ hx
    have hc := bx_cell (mem_bxR M hb) j hv
    simp [execOp, hop, hx, run_load1 ht hd hc]
theorem qt_loadRS {x : Operand} {t tb : TypeId} {B : Nat} {cs : List Value} {td : TypeDesc} (hb : BxV w0 B tb (.agg cs.toArray)) (hop : o.op = .load t x) (hx : evo e x = some (.pointer (some ⟨B, 0, none⟩))) (ht : Try.prog.underlying t = some td) (hd : aggT td = true)
    (hs : (Try.prog.info? t).map (·.size) = some cs.length) : QV w0 is o e (.agg cs.toArray) :=
  fun w ac M F => by
    have hx := F _ _ hx
    have hc : w.heap[B]? = some (.cells cs.toArray tb (0, 0)) := mem_bxR M hb
    simp [execOp, hop, hx, Instr.loadAt, Instr.sureAddr, run_loadVar_row w B tb t cs.toArray (0, 0) td hc ht (by cases td <;> simp_all [aggT]) (by simpa using hs)]
end
end Go.Proofs.Ytbiplocgenppoaa
namespace Go.Proofs.Ytbiplocgenppoaa
open _root_.Go.Proofs.Try
open Go.RowKit
section
variable {α : Type} [Inhabited α]
def entsTo (φ : Nat → Ent α) (k : Nat) : List (Ent α) := (List.range k).map φ
theorem entsTo_len (φ : Nat → Ent α) (k : Nat) : (entsTo φ k).length = k := by simp [entsTo]
theorem entsTo_succ (φ : Nat → Ent α) (k : Nat) : entsTo φ k ++ [φ k] = entsTo φ (k + 1) := by simp [entsTo, List.range_succ]
theorem entsTo_at (φ : Nat → Ent α) {k j : Nat} (h : j < k) : atE (entsTo φ k) (j : Int) = φ j := by
  rw [atE_eq (by rw [entsTo_len]; exact h)]; simp [entsTo]
theorem entsTo_mem {φ : Nat → Ent α} {k : Nat} {e : Ent α} : e ∈ entsTo φ k ↔ ∃ j, j < k ∧ φ j = e := by simp [entsTo]
theorem entsTo_nodup {φ : Nat → Ent α} {k : Nat} (h : ∀ i j, i < k → j < k → φ i = φ j → i = j) : (entsTo φ k).Nodup := by
  unfold entsTo List.Nodup
  rw [List.pairwise_map]
  refine List.Pairwise.imp_of_mem (fun {a b} ha hb hab he => hab (h a b (List.mem_range.1 ha) (List.mem_range.1 hb) he)) (List.nodup_range (n := k))
variable [DecidableEq α]
theorem idx_nodup {β : Type} [BEq β] [LawfulBEq β] : ∀ (es : List β) (j : Nat) (h : j < es.length), es.Nodup → es.idxOf es[j] = j
  | [], j, h, _ => by simp at h
  | e :: es, 0, h, _ => by simp
  | e :: es, j + 1, h, hn => by
    have hn' := List.nodup_cons.1 hn
    have hj : j < es.length := by simpa using h
    have hne : (e == es[j]) = false := by
      simp only [beq_eq_false_iff_ne, ne_eq]
      intro he
      exact hn'.1 (by rw [he]; exact List.getElem_mem hj)
    simp only [List.getElem_cons_succ, List.idxOf_cons, hne, idx_nodup es j hj hn'.2]
    rfl
theorem posE_at {es : List (Ent α)} (hn : es.Nodup) {j : Nat} (h : j < es.length) {e : Ent α} (he : atE es (j : Int) = e) : posE es e = j := by
  subst he
  have hm := atE_mem h
  unfold posE
  rw [if_pos hm, atE_eq h]
  rw [idx_nodup es j h hn]
theorem posE_to {φ : Nat → Ent α} {k : Nat} (hi : ∀ i j, i < k → j < k → φ i = φ j → i = j) {j : Nat} (h : j < k) {e : Ent α} (he : φ j = e) : posE (entsTo φ k) e = j :=
  posE_at (entsTo_nodup hi) (by rw [entsTo_len]; exact h) (by rw [entsTo_at φ h, he])
theorem posE_int {φ : Nat → Ent α} {k : Nat} (hi : ∀ i j, i < k → j < k → φ i = φ j → i = j) {j : Int} (h0 : 0 ≤ j) (h1 : j < k) {e : Ent α} (he : φ j.toNat = e) : posE (entsTo φ k) e = j := by
  obtain ⟨n, rfl⟩ := Int.eq_ofNat_of_zero_le h0
  exact posE_to hi (by omega) he
theorem buildE_to {n : Int} {φ : Nat → Ent α} {k : Nat} {u : Nat → α} {th : α → α → α} {c : Cat} (ho : c.ob = n) (hs : c.s.length = k) (ht : c.t.length = k) (he : c.e.length = n.toNat) (hm : c.m.length = k) (hr : ∀ i, i < k → (row2 c.m (i : Int)).length = k)
    (h1 : ∀ i, i < k → at0 c.s (i : Int) = (φ i).1) (h2 : ∀ i, i < k → at0 c.t (i : Int) = (φ i).2.1) (h3 : ∀ x, x < n.toNat → at0 c.e (x : Int) = posE (entsTo φ k) ((x : Int), (x : Int), u x))
    (h4 : ∀ i j, i < k → j < k → at0 (row2 c.m (i : Int)) (j : Int) = cellE (entsTo φ k) th (φ i) (φ j)) : buildE n (entsTo φ k) u th = c := by
  have e1 : c.s = tabTo (fun i => (atE (entsTo φ k) (i : Int)).1) k := tabTo_ext hs fun j hj => by rw [h1 j hj, entsTo_at φ hj]
  have e2 : c.t = tabTo (fun i => (atE (entsTo φ k) (i : Int)).2.1) k := tabTo_ext ht fun j hj => by rw [h2 j hj, entsTo_at φ hj]
  have e3 : c.e = tabTo (fun x => posE (entsTo φ k) ((x : Int), (x : Int), u x)) n.toNat := tabTo_ext he fun j hj => h3 j hj
  have e4 : c.m = rowsTo (fun i => rowE (entsTo φ k) th (atE (entsTo φ k) (i : Int))) k := rowsTo_ext hm fun i hi => by
    unfold rowE
    rw [entsTo_len]
    refine tabTo_ext (hr i hi) fun j hj => ?_
    rw [h4 i j hi hj, entsTo_at φ hi, entsTo_at φ hj]
  obtain ⟨ob, s, t, e, m⟩ := c
  simp only at ho e1 e2 e3 e4
  unfold buildE
  rw [entsTo_len, ← e1, ← e2, ← e3, ← e4, ho]
end
theorem retCI_eq {W w' : World} {c c' : Cat} {n n' : Int} {e : Ending} (hc : c = c') (hn : n = n') (h : RetCI W c n e w') : RetCI W c' n' e w' := by subst hc; subst hn; exact h
end Go.Proofs.Ytbiplocgenppoaa
namespace Go.Proofs.Ytbiplocgenppoaa
open _root_.Go.Proofs.Try
open Go.RowKit
section
variable {w0 : World} {is : List Itm} {ops : Array Oper} {Q : Exit → Act → World → Prop} {o : Oper} {rest : List Oper} {N : Frm} {e : Env} {v : Value} {d : Nat} {K : Act → World → Prop}
theorem go_appendA {s x : Operand} {t : TypeId} {n : Nat} {xs ys : List Int} {ua : Option Addr} {un uc : Nat} (hd : o.dst = some d) (hN : Nat.blt d N = true) (hop : o.op = .call { callee := .builtin .append, args := #[s, x], argTypes := #[t, t] }) (ht : Try.prog.underlying t = some (.slice 2))
  (hs : evo e s = some v) (hx : evo e x = some (.slice ua un uc)) (hi : is[n]? = some (own1I v xs)) (hj : ∀ w, Mem w0 w is → Rd w (.slice ua un uc) ys) (hn : xs.length + ys.length ≤ 17592186044415)
  (hk : ∀ a cap, GK w0 (is.set n (own1I (.slice a (xs ++ ys).length cap) (xs ++ ys))) N K ((d, .slice a (xs ++ ys).length cap) :: e)) : GO w0 is N o e Q K := by
 cases ua with
 | some q => exact go_appendL hd hN hop ht hs hx hi hj rfl hn hk
 | none =>
  intro w ac M F
  obtain ⟨ad, cap, hv, _, hc⟩ := hj w M
  have hy : ys = [] := by
   rcases Nat.eq_zero_or_pos ys.length with h0 | h0
   ·exact List.eq_nil_of_length_eq_zero h0
   obtain ⟨b, off, ha, _⟩ := hc 0 h0
   subst ha; cases hv
  subst hy
  simp only [Value.slice.injEq, List.length_nil] at hv
  obtain ⟨_, rfl, _⟩ := hv
  simp only [List.append_nil] at hk
  obtain ⟨S, hS, hp, hset⟩ := mem_set M hi
  have hp : Own1 v xs w S := hp
  obtain ⟨va, vc, hvf, _⟩ := sl_form hp.1
  obtain ⟨i, hi', hz, hs1, hb⟩ := info_parts info64
  have hr : (Builtin.append_ #[t, t] o.type #[v, .slice none 0 uc]).run Try.prog w = .ok v w := by
   rcases hp.1.1.2 with ⟨rfl, _⟩ | ⟨g, cap, cur, rfl, _, _, hnc, _⟩
   ·simp [Builtin.append_, run_underlying ht, sizeOf, typeInfo, hi', Builtin.lenOf, Builtin.firstCells]
   simp [Builtin.append_, run_underlying ht, sizeOf, typeInfo, hi', Builtin.lenOf, Builtin.firstCells, hnc, storeCells]
  subst hvf
  have hM : Mem w0 w (is.set n (own1I (.slice va xs.length vc) xs)) := by
   have : is.set n (own1I (.slice va xs.length vc) xs) = is := by
    have h1 := (List.getElem?_eq_some_iff.1 hi)
    obtain ⟨hlt, he⟩ := h1
    rw [← he, List.set_getElem_self]
   rw [this]; exact M
  refine go_val (v := .slice va xs.length vc) (w' := w) hd hN F ?_ fun ac F => hk va vc w ac hM F
  intro ρ F; have hs := F _ _ hs; have hx := F _ _ hx
  simp only [execOp, hop, resolve, invoke, builtin, Sem.run_bind, Sem.run_pure, Result.andThen_ok, List.map_toArray, List.map_cons, List.map_nil, hs, hx]
  rw [hr]
  rfl
end
theorem take2_succ {xs : List (List Int)} {k : Nat} (h : k < xs.length) : xs.take k ++ [row2 xs (k : Int)] = xs.take (k + 1) := by
 rw [List.take_succ_eq_append_getElem h]; simp [row2, List.getD_eq_getElem?_getD, List.getElem?_eq_getElem h]
theorem take2_len {xs : List (List Int)} {k : Nat} (h : k ≤ xs.length) : (xs.take k).length = k := by simp; omega
theorem specOwn_any (w : World) (v : Value) (xs : List Int) (h : Rd w v xs) :
  Calls Try.prog 68 #[v] w (RetL w xs) := by
 obtain ⟨va, vc, rfl⟩ := rd_form h
 have hxl : xs.length ≤ 17592186044415 := by obtain ⟨_, _, _, hl, _⟩ := h; exact hl
 go_enter func68, Try.ntmps68
 refine gc_enter (N := 6) rfl (look_cons (k := 0) rfl (look_nil _)) ?_
 refine gc_sr fun K1 hK1 => ?_
 refine gas ?_
 refine gnt (hK1 _ _ ?_)
 refine gc_sr fun K2 hK2 => ?_
 refine gop fun K4 hK4 => ?_
 refine go_slice0 rfl rfl rfl underlying24 ?_
 intro B3
 refine hK4 _ _ ?_
 refine gm ?_
 refine gop fun K6 hK6 => ?_
 refine go_appendA (n := 0) rfl rfl rfl underlying24 rfl rfl rfl (fun w M => mem_rd M h) (by first | simp; omega | omega) ?_
 intro va5 vc5
 refine hK6 _ _ ?_
 refine gas ?_
 refine gnt (hK2 _ _ ?_)
 refine gc_ret ?_
 refine ret_1 rfl rfl  (fun w M => ?_)
 exact ⟨_, rfl, mem_own1 (n := 0) M rfl, M.1⟩
theorem specOwn2_any (w : World) (v : Value) (xs : List (List Int)) (h : Rd2 w v xs) :
  Calls Try.prog 103 #[v] w (RetR w xs) := by
 obtain ⟨va, vc, rfl⟩ := rd2_form h
 have hxl := rd2_len h
 go_enter func103, Try.ntmps103
 refine gc_enter (N := 21) rfl (look_cons (k := 0) rfl (look_nil _)) ?_
 refine gc_sr fun K1 hK1 => ?_
 refine gas ?_
 refine gnt (hK1 _ _ ?_)
 refine gc_sr fun K2 hK2 => ?_
 refine gop fun K4 hK4 => ?_
 refine go_sliceR0 rfl rfl rfl underlying25 ?_
 intro B3
 refine hK4 _ _ ?_
 refine gas ?_
 refine gnt (hK2 _ _ ?_)
 refine gc_seq fun K5 hK5 => ?_
 refine gc_sr fun K6 hK6 => ?_
 refine gas ?_
 refine gnt (hK6 _ _ ?_)
 refine gc_block ?_
 try simp only [sL]
 refine gc_loopT ([(0, _), (2, _)] : Env) (fun s : Nat × (Option Addr) × Nat × (List Value) => (fun (k : Nat) (a : Option Addr) (q : Nat) (us : List Value) => (([(3, .slice a (xs.take k).length q), (4, .int .i64 (k : Int))] : Env), ([(0, own2U (.slice a (xs.take k).length q) us (xs.take k))] : List (Nat × Itm)), k ≤ xs.length, xs.length - k)) s.1 s.2.1 s.2.2.1 s.2.2.2) (0, _, _, _) (by repeat first | exact sub_nil | refine sub_cons rfl ?_) rfl (Nat.zero_le _) ?_
 rintro ⟨k, a, q, us⟩ hinv KL7 hKL7
 simp only [sU, sL] at hinv hKL7 ⊢
 have hk := hinv
 have hl := take2_len hk
 refine gc_seq fun K8 hK8 => ?_
 refine gc_sr fun K9 hK9 => ?_
 refine gm ?_
 refine gm ?_
 refine gv (qt_len rfl rfl ulE2 (fun w M => lenV_rd2 h)) ?_
 refine gv (qt_lss rfl rfl rfl) ?_
 refine gnt (hK9 _ _ ?_)
 refine gc_cond rfl (fun hc0 => ?_) (fun hc0 => ?_)
 ·try simp only [sA] at hc0
  refine gc_skip ?_
  refine gk_then (hK8 _ _ ?_)
  refine gc_seq fun K10 hK10 => ?_
  refine gc_block ?_
  refine gc_region ?_
  refine gm ?_
  refine gm ?_
  refine gm ?_
  refine gv (qti2 (fun w M => lenA_rd2 h)) ?_
  refine g_load2 (.free rfl) rfl rfl rfl rfl underlying24 rfl h (by omega) (by omega) ?_
  intro ra11 rc11 hr11
  refine gop fun K13 hK13 => ?_
  refine go_callL rfl rfl rfl func68 rfl (by decide) rfl (fun w M => specOwn_any w _ _ (mem_rd M hr11)) ?_
  intro va12 vc12
  refine hK13 _ _ ?_
  refine gop fun K15 hK15 => ?_
  refine go_sliceR1 (m := 1) rfl rfl rfl rfl underlying25 rfl ?_
  intro B14
  refine hK15 _ _ ?_
  refine gop fun K17 hK17 => ?_
  refine go_appendRow (n := 0) (m := 1) (m' := 0) rfl rfl rfl underlying25 rfl rfl rfl rfl rfl (by omega) ?_
  intro va16 vc16
  refine hK17 _ _ ?_
  refine gas ?_
  refine g_nil ?_
  refine gk_block ?_
  refine gk_then (hK10 _ _ ?_)
  refine gc_region ?_
  refine gm ?_
  refine gv (qt_add rfl rfl rfl (by omega)) ?_
  refine gas ?_
  refine g_nil ?_
  simp only [take2_succ (xs := xs) (k := k) (by omega)]
  refine gk_then (gk_take 1 ?_)
  refine gk_sub ?hs_18 (hKL7 (k + 1, _, _, _) ?hi_18 ?hm_18)
  case hs_18 => repeat first | exact sub_nil | refine sub_cons rfl ?_
  case hi_18 => omega
  case hm_18 => omega
 try simp only [sA] at hc0
 refine gc_exit ?_
 refine gk_then_exit ?_
 refine gk_then_exit ?_
 refine gk_block_hit ?_
 refine gk_then (hK5 _ _ ?_)
 refine gc_sr fun K19 hK19 => ?_
 refine gm ?_
 refine gas ?_
 refine gnt (hK19 _ _ ?_)
 refine gc_ret ?_
 refine ret_1 rfl rfl  (fun w M => ?_)
 obtain rfl : k = xs.length := by omega
 simp only [List.take_length] at M ⊢
 obtain ⟨S, hS, hb⟩ := mem_2U (n := 0) M rfl
 exact ⟨_, rfl, Own2.at (S := S) ⟨_, hb⟩ hS, M.1⟩
theorem specOwnC_any (w : World) (v : Value) (c : Cat) (h : RdC w v c) :
  Calls Try.prog 86 #[v] w (RetC w c) := by
 have h0 := h
 obtain ⟨va, vb, vc, vd, ve, vf, vg, vh, rfl, h1, h2, h3, h4, _⟩ := h.lists
 go_enter func86, Try.ntmps86
 refine gc_enter (N := 18) rfl (look_cons (k := 0) rfl (look_nil _)) ?_
 refine gc_sr fun K1 hK1 => ?_
 refine gop fun K3 hK3 => ?_
 refine go_box rfl rfl rfl rfl rfl ?_
 intro B2
 refine hK3 _ _ ?_
 refine gop fun K5 hK5 => ?_
 refine go_alloc (z := (.agg #[.int .i64 0, .slice none 0 0, .slice none 0 0, .slice none 0 0, .slice none 0 0])) (cs := [.int .i64 0, .slice none 0 0, .slice none 0 0, .slice none 0 0, .slice none 0 0]) rfl rfl rfl (fun w => by kernel_rfl) rfl ?_
 intro B4
 refine hK5 _ _ ?_
 refine gnt (hK1 _ _ ?_)
 refine gc_seq fun K6 hK6 => ?_
 try simp only [sL]
 refine ga_start _ (fun w M => mem_erase 1 (M)) ?_
 refine gav 0 rfl (qtf underlying27 (z := 0) (off := 0)) ?_
 refine gav 1 rfl (qtl underlying2 (n := 0)) ?_
 refine gav 2 rfl (qtf underlying27 (z := 0) (off := 1)) ?_
 refine gav 3 rfl (qtl underlying24 (n := 0)) ?_
 refine gav 5 rfl (qtf underlying27 (z := 0) (off := 2)) ?_
 refine gav 6 rfl (qtl underlying24 (n := 0)) ?_
 refine gav 8 rfl (qtf underlying27 (z := 0) (off := 3)) ?_
 refine gav 9 rfl (qtl underlying24 (n := 0)) ?_
 refine gav 11 rfl (qtf underlying27 (z := 0) (off := 4)) ?_
 refine gav 12 rfl (qtl underlying25 (n := 0)) ?_
 refine gao 4 fun K8 hK8 => ?_
 refine go_callL rfl rfl rfl func68 rfl (by decide) rfl (fun w M => specOwn_any w _ _ (mem_rd M h1)) ?_
 intro va7 vc7
 refine hK8 _ _ (fun w M => (ms1 1 2 M :)) ?_
 refine gao 7 fun K10 hK10 => ?_
 refine go_callL rfl rfl rfl func68 rfl (by decide) rfl (fun w M => specOwn_any w _ _ (mem_rd M h2)) ?_
 intro va9 vc9
 refine hK10 _ _ (fun w M => (ms1 1 2 M :)) ?_
 refine gao 10 fun K12 hK12 => ?_
 refine go_callL rfl rfl rfl func68 rfl (by decide) rfl (fun w M => specOwn_any w _ _ (mem_rd M h3)) ?_
 intro va11 vc11
 refine hK12 _ _ (fun w M => (ms1 1 2 M :)) ?_
 refine gao 13 fun K14 hK14 => ?_
 refine go_callR rfl rfl rfl func103 rfl (by decide) rfl (fun w M => specOwn2_any w _ _ (mem_rd2 M h4)) ?_
 intro va13 vc13 us13
 refine hK14 _ _ (fun w M => (ms1 1 2 M :)) ?_
 refine gav 14 rfl (qt_build rfl rfl bt_Category) ?_
 refine gao 15 fun K15 hK15 => ?_
 refine go_storeS (n := 1) rfl rfl rfl rfl (by kernel_rfl) rfl rfl rfl ?_
 refine hK15 _ _ (fun w M => (ms1 1 2 M :)) ?_
 refine ga_done (by kernel_rfl) ?_
 refine gk_then (hK6 _ _ ?_)
 refine gc_ret ?_
 refine ret_S (n := 1) rfl rfl underlying27 rfl (by kernel_rfl) rfl (fun w M => ?_)
 exact ⟨_, rfl, ownC_star (mem_pick (n := 5) (mem_pick (n := 5) (mem_pick (n := 5) (mem_pick (n := 5) (M) rfl) rfl) rfl) rfl).2, M.1⟩
end Go.Proofs.Ytbiplocgenppoaa
