import Derived.Test.YtbiplocgenppoaaS4
import Derived.Test.YtbiplocgenppoaaS9
import Derived.Test.YtbiplocgenppoaaS1
import Derived.Maps.AppendAt
import Derived.WideKeyRuns
import Derived.Deep.MidRow
set_option maxHeartbeats 1000000
set_option maxRecDepth 100000
set_option linter.unusedSimpArgs false
set_option linter.unusedVariables false
set_option linter.unusedSectionVars false
namespace Go.Proofs.Ytbiplocgenppoaa
open _root_.Go.Proofs.Try
open Go.RowKit
def RetIB (W : World) (n : Int) (b : Bool) (e : Ending) (w' : World) : Prop := e = .returned (.tuple #[.int .i64 n, .bool b]) ∧ Below W.heap.size W w'
noncomputable def invZ (c : Cat) (f : Int) : Int := bif bP (hasInv c f) then findGo c f (homTo c (at0 c.t f) (at0 c.s f) c.s.length) else 0
theorem invZ_t {c : Cat} {f : Int} (h : hasInv c f) : invZ c f = findGo c f (homTo c (at0 c.t f) (at0 c.s f) c.s.length) := by unfold invZ; rw [bP_t h]; rfl
theorem invZ_f {c : Cat} {f : Int} (h : ¬ hasInv c f) : invZ c f = 0 := by unfold invZ; rw [bP_f h]; rfl
theorem inverse_any (w : World) (v : Value) (c : Cat) (f : Int) (h : RdC w v c) (hS : ShapeP c) (f0 : 0 ≤ f) (f1 : f < c.s.length) :
  Calls Try.prog 90 #[v, .int .i64 f] w (RetIB w (invZ c f) (bP (hasInv c f))) := by
 have h0 := h
 obtain ⟨va, vb, vc, vd, ve, vf, vg, vh, rfl, h1, h2, h3, h4, _⟩ := h.lists
 have hf := arrP hS f0 f1
 have e1 := hf.fs; have e2 := hf.ft; have e3 := hf.fm; have e4 := hf.s0; have e5 := hf.s1; have e6 := hf.t0; have e7 := hf.t1; have e8 := hf.row
 have hn40 := hS.n40; have htl := hS.tl; have hel := hS.el
 have hl := homTo_len c (at0 c.t f) (at0 c.s f) c.s.length
 go_enter func90, Try.ntmps90
 refine gc_enter (N := 41) rfl (look_cons (k := 0) rfl (look_cons (k := 1) rfl (look_nil _))) ?_
 refine gc_sr fun K1 hK1 => ?_
 refine gop fun K3 hK3 => ?_
 refine go_box rfl rfl rfl rfl rfl ?_
 intro B2
 refine hK3 _ _ ?_
 refine gas ?_
 refine gas ?_
 refine gnt (hK1 _ _ ?_)
 refine gc_seq fun K4 hK4 => ?_
 refine gc_seq fun K5 hK5 => ?_
 try simp only [sL]
 refine ga_start _ (fun w M => M) ?_
 refine gav 0 rfl (qts underlying27 (n := 0)) ?_
 refine gav 1 rfl (qtf underlying27 (z := 0) (off := 2)) ?_
 refine gav 2 rfl (qtl underlying24 (n := 0)) ?_
 refine gav 3 rfl (qt_move rfl rfl) ?_
 refine gav 4 rfl (qti (fun w M => lenA_rd h2)) ?_
 refine gav 5 rfl (qtd (fun w M => mem_rd M h2)) ?_
 refine gav 6 rfl (qtf underlying27 (z := 0) (off := 1)) ?_
 refine gav 7 rfl (qtl underlying24 (n := 0)) ?_
 refine gav 8 rfl (qt_move rfl rfl) ?_
 refine gav 9 rfl (qti (fun w M => lenA_rd h1)) ?_
 refine gav 10 rfl (qtd (fun w M => mem_rd M h1)) ?_
 refine gav 11 rfl (qt_build rfl rfl bt_arrowEnds) ?_
 refine gav 14 rfl (qt_move rfl rfl) ?_
 refine gao 12 fun K7 hK7 => ?_
 refine go_callL rfl rfl rfl func104 rfl (by decide) rfl (fun w M => arrowsBetween_any w _ _ _ _ (mem_rdC M h0) (by first | assumption | omega)) ?_
 intro va6 vc6
 refine hK7 _ _ (fun w M => (mem_take 1 M :)) ?_
 refine gao 13 fun K8 hK8 => ?_
 refine gov (qln (fun w M => lenV_own1 (n := 1) rfl M)) ?_
 refine hK8 _ _ (fun w M => (mem_take 1 M :)) ?_
 refine ga_done (by kernel_rfl) ?_
 refine gk_then (hK5 _ _ ?_)
 refine gc_block ?_
 try simp only [sL]
 refine gc_loopT ([(0, _), (1, _), (2, _), (20, _), (21, _)] : Env) (fun s : Nat => (fun (k : Nat) => (([(22, .int .i64 (k : Int))] : Env), ([] : List (Nat × Itm)), k ≤ (homTo c (at0 c.t f) (at0 c.s f) c.s.length).length ∧ findGo c f ((homTo c (at0 c.t f) (at0 c.s f) c.s.length).drop k) = findGo c f (homTo c (at0 c.t f) (at0 c.s f) c.s.length), (homTo c (at0 c.t f) (at0 c.s f) c.s.length).length - k)) s) (0) (by repeat first | exact sub_nil | refine sub_cons rfl ?_) rfl ⟨Nat.zero_le _, rfl⟩ ?_
 rintro k hinv KL9 hKL9
 simp only [sU, sL] at hinv hKL9 ⊢
 obtain ⟨hk, hgo⟩ := hinv
 refine gc_sr fun K10 hK10 => ?_
 refine gv (qt_lss rfl rfl rfl) ?_
 refine gnt (hK10 _ _ ?_)
 refine gc_seq fun K11 hK11 => ?_
 refine gc_cond rfl (fun hc0 => ?_) (fun hc0 => ?_)
 ·try simp only [sA] at hc0
  refine gc_skip ?_
  refine gk_then (hK11 _ _ ?_)
  refine gc_seq fun K12 hK12 => ?_
  refine gc_block ?_
  refine gc_sr fun K13 hK13 => ?_
  refine gv (qti (fun w M => lenA_own1 (n := 1) rfl M)) ?_
  refine gv (qtd (fun w M => (mem_own1 (n := 1) M rfl).rd)) ?_
  refine gas ?_
  refine gnt (hK13 _ _ ?_)
  refine gc_seq fun K14 hK14 => ?_
  have hg := homTo_at (c := c) (x := at0 c.t f) (y := at0 c.s f) (n := c.s.length) (k := k) (by omega)
  have hA := arrP hS hg.1 hg.2.1
  have a1 := hA.f0; have a2 := hA.fs; have a3 := hA.fm; have a4 := hA.row
  refine gc_draw (by kernel_rfl) ?_
  refine gdv (qts underlying27 (n := 0)) ?_
  refine gdv (qt_move rfl rfl) ?_
  refine gdv (qt_move rfl rfl) ?_
  refine gd_q (.free rfl) rfl rfl (qt_call rfl func30 rfl (by decide) rfl (fun w M => then_any w _ _ _ _ (mem_rdC M h0) (by first | assumption | omega) (by first | assumption | omega) (by first | assumption | omega) (by first | assumption | omega))) ?_
  refine gdv (qts underlying27 (n := 0)) ?_
  refine gdv (qt_move rfl rfl) ?_
  refine gdv (qt_move rfl rfl) ?_
  refine gd_q (.free rfl) rfl rfl (qt_call rfl func30 rfl (by decide) rfl (fun w M => then_any w _ _ _ _ (mem_rdC M h0) (by first | assumption | omega) (by first | assumption | omega) (by first | assumption | omega) (by first | assumption | omega))) ?_
  refine gdv (qt_build rfl rfl bt_arrowPair) ?_
  refine gdv (qts underlying27 (n := 0)) ?_
  refine gdv (qt_move rfl rfl) ?_
  refine gd_q (.free rfl) rfl rfl (qt_call rfl func60 rfl (by decide) rfl (fun w M => units_any w _ _ _ (mem_rdC M h0) (hf))) ?_
  refine gdv (qt_eqA rfl rfl rfl (fun w => eqA_arrowPair _ _ _ _ w) eqG_arrowPair) ?_
  refine gd_nil ?_
  refine gk_then (hK14 _ _ ?_)
  refine gc_cond rfl (fun hc1 => ?_) (fun hc1 => ?_)
  ·try simp only [sA] at hc1
   refine gc_sr fun K15 hK15 => ?_
   refine gm ?_
   refine gas ?_
   refine gas ?_
   refine gnt (hK15 _ _ ?_)
   refine gc_ret ?_
   refine gk_block_ret ?_
   refine gk_then_ret ?_
   refine gk_then_ret ?_
   refine gk_block_ret ?_
   refine gk_then_ret ?_
   refine ret_2 rfl rfl rfl  (fun w M => ?_)
   have hh : hasInv c f := ⟨_, by rw [at0_nat]; exact mem_getD (by omega), hc1⟩
   rw [bP_t hh, invZ_t hh, ← hgo, findGo_t (by omega) hc1]; exact ⟨rfl, M.1⟩
  try simp only [sA] at hc1
  refine gc_skip ?_
  refine gk_block ?_
  refine gk_then (hK12 _ _ ?_)
  refine gc_region ?_
  refine gv (qt_add rfl rfl rfl (by omega)) ?_
  refine gm ?_
  refine g_nil ?_
  refine gk_then (gk_take 2 ?_)
  refine gk_sub ?hs_16 (hKL9 (k + 1) ?hi_16 ?hm_16)
  case hs_16 => repeat first | exact sub_nil | refine sub_cons rfl ?_
  case hi_16 => exact ⟨by omega, by rw [← hgo, findGo_f (by omega) hc1]⟩
  case hm_16 => omega
 try simp only [sA] at hc0
 refine gc_exit ?_
 refine gk_then_exit ?_
 refine gk_then_exit ?_
 refine gk_block_hit ?_
 refine gk_then (hK4 _ _ ?_)
 refine gc_sr fun K17 hK17 => ?_
 refine gas ?_
 refine gas ?_
 refine gnt (hK17 _ _ ?_)
 refine gc_ret ?_
 refine ret_2 rfl rfl rfl  (fun w M => ?_)
 obtain rfl : k = (homTo c (at0 c.t f) (at0 c.s f) c.s.length).length := by omega
 have hno : ¬ hasInv c f := inv_neg.1 (by rw [← hgo, findGo_end]; decide)
 rw [bP_f hno, invZ_f hno]; exact ⟨rfl, M.1⟩
theorem isInvertible_any (w : World) (v : Value) (c : Cat) (f : Int) (h : RdC w v c) (hS : ShapeP c) (f0 : 0 ≤ f) (f1 : f < c.s.length) :
  Calls Try.prog 72 #[v, .int .i64 f] w (RetB w (bP (hasInv c f))) := by
 have h0 := h
 obtain ⟨va, vb, vc, vd, ve, vf, vg, vh, rfl, h1, h2, h3, h4, _⟩ := h.lists
 go_enter func72, Try.ntmps72
 refine gc_enter (N := 14) rfl (look_cons (k := 0) rfl (look_cons (k := 1) rfl (look_nil _))) ?_
 refine gc_sr fun K1 hK1 => ?_
 refine gop fun K3 hK3 => ?_
 refine go_box rfl rfl rfl rfl rfl ?_
 intro B2
 refine hK3 _ _ ?_
 refine gas ?_
 refine gnt (hK1 _ _ ?_)
 refine gc_sr fun K4 hK4 => ?_
 refine gv (qts underlying27 (n := 0)) ?_
 refine gm ?_
 refine g_q (.free rfl) rfl rfl (qt_call rfl func90 rfl (by decide) rfl (fun w M => inverse_any w _ _ _ (mem_rdC M h0) (by first | assumption | omega) (by first | assumption | omega) (by first | assumption | omega))) ?_
 refine gm ?_
 refine gv (qt_extract rfl rfl rfl) ?_
 refine gv (qt_extract rfl rfl rfl) ?_
 refine gas ?_
 refine gas ?_
 refine gnt (hK4 _ _ ?_)
 refine gc_sr fun K5 hK5 => ?_
 refine gm ?_
 refine gas ?_
 refine gnt (hK5 _ _ ?_)
 refine gc_ret ?_
 refine ret_1 rfl rfl  (fun w M => ?_)
 exact ⟨rfl, M.1⟩
end Go.Proofs.Ytbiplocgenppoaa
namespace Go.Proofs.Ytbiplocgenppoaa
open _root_.Go.Proofs.Try
open Go.RowKit
theorem star_two' {is : List Itm} {n m m' : Nat} {i j : Itm} {w : World} {S : Nat → Prop} (h : Star is w S) (hi : is[n]? = some i) (hj : (is.eraseIdx n)[m']? = some j) (hE : (is.set m trivI).eraseIdx n = (is.eraseIdx n).set m' trivI) :
    ∃ S1 S2 : Nat → Prop, (∀ k, S1 k → S k) ∧ (∀ k, S2 k → S k) ∧ (∀ k, S1 k → ¬ S2 k) ∧ i.p w S1 ∧ j.p w S2 ∧
      ∀ (w' : World) (i' : Itm), FrS S1 w w' → i'.p w' (fun k => (S1 k ∨ S2 k) ∨ w.heap.size ≤ k) → Star ((is.set m trivI).set n i') w' (fun k => S k ∨ w.heap.size ≤ k) := by
  obtain ⟨S1, R, a1, a2, a3, a4, a5⟩ := star_pick is hi h
  obtain ⟨S2, R', b1, b2, b3, b4, b5⟩ := star_pick _ hj a5
  have hn : n < is.length := (List.getElem?_eq_some_iff.1 hi).1
  have hm : m' < (is.eraseIdx n).length := (List.getElem?_eq_some_iff.1 hj).1
  refine ⟨S1, S2, a1, fun k h => a2 k (b1 k h), fun k h h' => a3 k h (b1 k h'), a4, b4, fun w' i' hf hi' => ?_⟩
  refine star_unpick _ (by simpa using hn) ?_
  rw [hE]
  refine ⟨fun k => (S1 k ∨ S2 k) ∨ w.heap.size ≤ k, fun k => R' k ∧ k < w.heap.size, fun k h => h.elim (fun h => .inl (h.elim (a1 k) fun h => a2 k (b1 k h))) .inr, fun k h => .inl (a2 k (b2 k h.1)), fun k h h' => h.elim (fun h => h.elim (fun h => a3 k h (b2 k h'.1)) (fun h => b3 k h h'.1)) (fun h => by have := h'.2; omega), hi', ?_⟩
  refine star_unpick _ hm ⟨fun _ => False, fun k => R' k ∧ k < w.heap.size, fun k h => h.elim, fun k h => h, fun k h => h.elim, trivial, ?_⟩
  exact star_keep _ (fun k hk h => ⟨h, hk⟩) (fun k hk h => hf.block k hk fun e => a3 k e (b2 k h)) b5
section
variable {w0 : World} {is : List Itm} {ops : Array Oper} {Q : Exit → Act → World → Prop} {o : Oper} {rest : List Oper} {N : Frm} {e : Env} {v : Value} {d : Nat} {K : Act → World → Prop}
theorem go_sliceR0 {t : TypeId} (hd : o.dst = some d) (hN : Nat.blt d N = true) (hop : o.op = .buildSlice t 0 #[]) (ht : Try.prog.underlying t = some (.slice 24))
    (hk : ∀ B : Nat, GK w0 (is ++ [own2U (.slice (some ⟨B, 0, none⟩) 0 0) [] []]) N K ((d, .slice (some ⟨B, 0, none⟩) 0 0) :: e)) : GO w0 is N o e Q K := by
  intro w ac M F
  have hU : Own2U (.slice (some ⟨w.heap.size, 0, none⟩) 0 0) [] [] (w.alloc (.cells #[] 24)) (fun k => w.heap.size ≤ k) := by
    refine ⟨rfl, by decide, ⟨by simp, .inr ⟨w.heap.size, 0, #[], rfl, Nat.zero_le _, heap_alloc_new w _, Nat.le_refl _, by unfold maxLen; omega, by simp, by simp⟩⟩, fun i hi => absurd hi (by simp), fun i j hij hj => absurd hj (by simp), fun q hq => ?_⟩
    simp [Value.ownBlock] at hq; omega
  refine go_val (v := .slice (some ⟨w.heap.size, 0, none⟩) 0 0) (w' := w.alloc (.cells #[] 24)) hd hN F ?_ fun ac F => hk _ _ ac (mem_new M (below_alloc w _) hU) F
  intro ρ F
  obtain ⟨i, hi, hz, hs, hb⟩ := info_parts infoS
  simp [execOp, hop, Instr.buildSlice, run_underlying ht, sizeOf, typeInfo, hi, hs, Instr.fill, newRow, zeroValue, hz, Value.cells, Sem.run_bind, range0]
theorem go_sliceR1 {t : TypeId} {x : Operand} {m : Nat} {u : Value} {r : List Int} (hd : o.dst = some d) (hN : Nat.blt d N = true) (hop : o.op = .buildSlice t 1 #[(0, x)]) (hx : evo e x = some u) (ht : Try.prog.underlying t = some (.slice 24)) (hi : is[m]? = some (own1I u r))
    (hk : ∀ B : Nat, GK w0 (is.set m (own2U (.slice (some ⟨B, 0, none⟩) 1 1) [u] [r])) N K ((d, .slice (some ⟨B, 0, none⟩) 1 1) :: e)) : GO w0 is N o e Q K := by
  intro w ac M F
  obtain ⟨S, hS, hp, hset⟩ := mem_set M hi
  have hp' : Own1 u r w S := hp
  obtain ⟨ua, uc, rfl⟩ := rd_form hp'.rd
  have hU : Own2U (.slice (some ⟨w.heap.size, 0, none⟩) 1 1) [.slice ua r.length uc] [r] (w.alloc (.cells #[.slice ua r.length uc] 24)) (fun k => S k ∨ w.heap.size ≤ k) := by
    refine ⟨rfl, by simp, ⟨by simp, .inr ⟨w.heap.size, 1, #[.slice ua r.length uc], rfl, Nat.zero_le _, heap_alloc_new w _, Nat.le_refl _, by unfold maxLen; omega, by simp, by simp⟩⟩, fun i hi => ?_, fun i j hij hj => by simp at hj; omega, fun q hq => ?_⟩
    · obtain rfl : i = 0 := by simpa using hi
      refine ⟨sl_alloc hp'.1 _, fun q hq hv => ?_, fun q hq => .inl (hp'.2 q hq)⟩
      have := (hp'.1.1.lt q hq).2
      simp only [Value.ownBlock, Option.some.injEq] at hv
      omega
    simp only [Value.ownBlock, Option.some.injEq] at hq; exact .inr (by omega)
  refine go_val (v := .slice (some ⟨w.heap.size, 0, none⟩) 1 1) (w' := w.alloc (.cells #[.slice ua r.length uc] 24)) hd hN F ?_ fun ac F => hk _ _ ac (hset _ _ (frS_new (below_alloc w _)) hU) F
  intro ρ F; have hx := F _ _ hx
  obtain ⟨i, hi, hz, hs, hb⟩ := info_parts infoS
  simp [execOp, hop, hx, Instr.buildSlice, run_underlying ht, sizeOf, typeInfo, hi, hs, Instr.fill, newRow, zeroValue, hz, Value.cells, Sem.run_bind, range1]
theorem go_appendRow {s x : Operand} {t : TypeId} {n m m' : Nat} {us : List Value} {rows : List (List Int)} {r : List Int} {u ru : Value} (hd : o.dst = some d) (hN : Nat.blt d N = true) (hop : o.op = .call { callee := .builtin .append, args := #[s, x], argTypes := #[t, t] }) (ht : Try.prog.underlying t = some (.slice 24))
    (hs : evo e s = some v) (hx : evo e x = some u) (hi : is[n]? = some (own2U v us rows)) (hj : (is.eraseIdx n)[m']? = some (own2U u [ru] [r])) (hE : (is.set m trivI).eraseIdx n = (is.eraseIdx n).set m' trivI) (hn : rows.length + 1 ≤ 5000000000000)
    (hk : ∀ a cap, GK w0 ((is.set m trivI).set n (own2U (.slice a (rows ++ [r]).length cap) (us ++ [ru]) (rows ++ [r]))) N K ((d, .slice a (rows ++ [r]).length cap) :: e)) : GO w0 is N o e Q K := by
  intro w ac M F
  obtain ⟨S1, S2, k1, k2, kd, hp, hq, hset⟩ := star_two' M.2 hi hj hE
  have hp' : Own2U v us rows w S1 := hp
  have hq' : Own2U u [ru] [r] w S2 := hq
  obtain ⟨i, hi', hz, hs1, hb⟩ := info_parts infoS
  obtain ⟨hul, hl2, hown, hrows, hpair, hvS⟩ := hp'
  have hr2 := hq'.2.2.2.1 0 (by simp)
  simp only [List.getD_cons_zero] at hr2
  have hown2 := hq'.2.2.1
  obtain ⟨ra, rc, hru, _⟩ := sl_form hr2.1
  rcases hown2.2 with ⟨_, h⟩ | ⟨g2, c2, cur2, rfl, _⟩
  · simp at h
  obtain ⟨v', w', hr, hown', hgrow, _, hat⟩ := run_append_own_at (P := Try.prog) w 0 t o.type 24 i (.slice none 0 0) 1 24 ht hi' hz hs1 hb rfl (by decide) v rows.length us hown ⟨g2, 0, none⟩ 1 c2 [ru] rfl (fun j z hz => by
    have hj0 : j < [ru].length := by
      rcases Nat.lt_or_ge j [ru].length with h | h
      · exact h
      · rw [List.getElem?_eq_none h] at hz; cases hz
    rw [Addr.add_lit, Nat.zero_add, hown2.cellAt j (by simpa using hj0)]; exact hz) (by rw [hru]; simp [Value.oneCell']) (by unfold maxLen; omega) (by omega) (Nat.zero_le _)
  have hvlt : ∀ q, v.ownBlock = some q → q < w.heap.size := fun q hq => (hown.lt q hq).2
  have hk1 : ∀ q, v'.ownBlock = some q → S1 q ∨ w.heap.size ≤ q := fun q hq => by
    rcases hat with h | h
    · exact .inl (hvS q (by rw [← h]; exact hq))
    rw [h] at hq; simp only [Option.some.injEq] at hq; exact .inr (by omega)
  have hneR : ru.ownBlock = none ∨ ru.ownBlock ≠ v.ownBlock := by
    cases hb0 : ru.ownBlock with
    | none => exact .inl rfl
    | some q => exact .inr fun e => kd q (hvS q e.symm) (hr2.2.2 q hb0)
  have hfin : Own2U v' (us ++ [ru]) (rows ++ [r]) w' (fun k => (S1 k ∨ S2 k) ∨ w.heap.size ≤ k) := by
    refine ⟨by simp [hul], by simpa using hn, by simpa using hown', fun i hi => ?_, fun i j hij hj => ?_, fun q hq => (hk1 q hq).imp .inl id⟩
    · simp only [List.length_append, List.length_singleton] at hi
      rcases Nat.lt_or_ge i rows.length with h | h
      · rw [show (us ++ [ru]).getD i undef = us.getD i undef from by rw [List.getD_eq_getElem?_getD, List.getD_eq_getElem?_getD, List.getElem?_append_left (by omega)], show (rows ++ [r]).getD i [] = rows.getD i [] from by rw [List.getD_eq_getElem?_getD, List.getD_eq_getElem?_getD, List.getElem?_append_left h]]
        obtain ⟨h1, h2, h3⟩ := hrows i h
        refine ⟨sl_kept h1 hgrow (apart_ne h2), fun q hq hv => ?_, fun q hq => .inl (.inl (h3 q hq))⟩
        rcases hat with ha | ha
        · exact h2 q hq (by rw [← ha]; exact hv)
        rw [ha] at hv; simp only [Option.some.injEq] at hv; have := (h1.1.lt q hq).2; omega
      obtain rfl : i = rows.length := by omega
      rw [show (us ++ [ru]).getD rows.length undef = ru from by rw [List.getD_eq_getElem?_getD, List.getElem?_append_right (by omega)]; simp [hul], show (rows ++ [r]).getD rows.length [] = r from by rw [List.getD_eq_getElem?_getD, List.getElem?_append_right (by omega)]; simp]
      refine ⟨sl_kept hr2.1 hgrow hneR, fun q hq hv => ?_, fun q hq => .inl (.inr (hr2.2.2 q hq))⟩
      rcases hk1 q hv with h | h
      · exact kd q h (hr2.2.2 q hq)
      have := (hr2.1.1.lt q hq).2; omega
    simp only [List.length_append, List.length_singleton] at hj
    rw [show (us ++ [ru]).getD i undef = us.getD i undef from by rw [List.getD_eq_getElem?_getD, List.getD_eq_getElem?_getD, List.getElem?_append_left (by omega)]]
    rcases Nat.lt_or_ge j rows.length with h | h
    · rw [show (us ++ [ru]).getD j undef = us.getD j undef from by rw [List.getD_eq_getElem?_getD, List.getD_eq_getElem?_getD, List.getElem?_append_left (by omega)]]
      exact hpair i j hij h
    obtain rfl : j = rows.length := by omega
    rw [show (us ++ [ru]).getD rows.length undef = ru from by rw [List.getD_eq_getElem?_getD, List.getElem?_append_right (by omega)]; simp [hul]]
    exact fun q hq hv => kd q ((hrows i hij).2.2 q hq) (hr2.2.2 q hv)
  obtain ⟨va, vc, rfl⟩ := rd2_form (Own2.rd (S := fun k => (S1 k ∨ S2 k) ∨ w.heap.size ≤ k) ⟨_, hfin⟩)
  have hf : FrS S1 w w' := frS_grown hgrow hvS
  refine go_val (v := .slice va (rows ++ [r]).length vc) (w' := w') hd hN F ?_ fun ac F => hk va vc w' ac ⟨below_frS M.1 hf (Nat.le_refl _) k1, star_keep _ (fun k _ hk => hk.elim id fun h => Nat.le_trans M.1.size h) agree_refl (hset w' (own2U (.slice va (rows ++ [r]).length vc) (us ++ [ru]) (rows ++ [r])) hf hfin)⟩ F
  intro ρ F; have hs := F _ _ hs; have hx := F _ _ hx
  simp only [execOp, hop, resolve, invoke, builtin, Sem.run_bind, Sem.run_pure, Result.andThen_ok, List.map_toArray, List.map_cons, List.map_nil, hs, hx]
  simp only [List.length_singleton] at hr ⊢
  rw [hr]
  rfl
variable {f : FuncId} {fn : Func} {ags : Array Operand} {ts : Array TypeId} {vs : List Value}
end
end Go.Proofs.Ytbiplocgenppoaa
namespace Go.Proofs.Ytbiplocgenppoaa
open _root_.Go.Proofs.Try
open Go.RowKit
section
variable {w0 : World} {is : List Itm} {ops : Array Oper} {Q : Exit → Act → World → Prop} {o : Oper} {rest : List Oper} {N : Frm} {e : Env} {v : Value} {d : Nat} {K : Act → World → Prop}
end
end Go.Proofs.Ytbiplocgenppoaa
namespace Go.Proofs.Ytbiplocgenppoaa
open _root_.Go.Proofs.Try
open Go.RowKit
section
variable {w0 : World} {is : List Itm} {ops : Array Oper} {Q : Exit → Act → World → Prop} {o : Oper} {rest : List Oper} {N : Frm} {e : Env} {v : Value} {d : Nat} {K : Act → World → Prop}
end
end Go.Proofs.Ytbiplocgenppoaa
namespace Go.Proofs.Ytbiplocgenppoaa
open _root_.Go.Proofs.Try
open Go.RowKit
def tabTo (φ : Nat → Int) (k : Nat) : List Int := (List.range k).map φ
theorem tabTo_succ (φ : Nat → Int) (k : Nat) : tabTo φ k ++ [φ k] = tabTo φ (k + 1) := by simp [tabTo, List.range_succ]
theorem tabTo_len (φ : Nat → Int) (k : Nat) : (tabTo φ k).length = k := by simp [tabTo]
theorem tabTo_at (φ : Nat → Int) {k j : Nat} (h : j < k) : at0 (tabTo φ k) j = φ j := by
  rw [at0_nat]; simp [tabTo, List.getD_eq_getElem?_getD, List.getElem?_eq_getElem, h]
theorem tabTo_ext {xs : List Int} {φ : Nat → Int} {n : Nat} (hl : xs.length = n) (h : ∀ j, j < n → at0 xs (j : Int) = φ j) : xs = tabTo φ n := by
  subst hl
  refine List.ext_getElem (by simp [tabTo]) fun j h1 h2 => ?_
  have := h j h1
  rw [at0_nat, List.getD_eq_getElem?_getD, List.getElem?_eq_getElem h1] at this
  simpa [tabTo] using this
def rowsTo (ψ : Nat → List Int) (k : Nat) : List (List Int) := (List.range k).map ψ
theorem rowsTo_succ (ψ : Nat → List Int) (k : Nat) : rowsTo ψ k ++ [ψ k] = rowsTo ψ (k + 1) := by simp [rowsTo, List.range_succ]
theorem rowsTo_len (ψ : Nat → List Int) (k : Nat) : (rowsTo ψ k).length = k := by simp [rowsTo]
theorem rowsTo_at (ψ : Nat → List Int) {k j : Nat} (h : j < k) : row2 (rowsTo ψ k) j = ψ j := by
  simp [row2, rowsTo, List.getD_eq_getElem?_getD, List.getElem?_eq_getElem, h]
theorem rowsTo_ext {xs : List (List Int)} {ψ : Nat → List Int} {n : Nat} (hl : xs.length = n) (h : ∀ j, j < n → row2 xs (j : Int) = ψ j) : xs = rowsTo ψ n := by
  subst hl
  refine List.ext_getElem (by simp [rowsTo]) fun j h1 h2 => ?_
  have := h j h1
  simp only [row2, Int.toNat_natCast, List.getD_eq_getElem?_getD, List.getElem?_eq_getElem h1, Option.getD_some] at this
  simpa [rowsTo] using this
def fillTo (φ : Nat → Int) (n k : Nat) : List Int := (List.range n).map fun j => if j < k then φ j else 0
theorem fillTo_len (φ : Nat → Int) (n k : Nat) : (fillTo φ n k).length = n := by simp [fillTo]
theorem fillTo_zero (φ : Nat → Int) (n : Nat) : List.replicate n 0 = fillTo φ n 0 := by
  refine List.ext_getElem (by simp [fillTo]) fun j h1 h2 => by simp [fillTo]
theorem fillTo_end (φ : Nat → Int) (n : Nat) : fillTo φ n n = tabTo φ n := List.map_congr_left fun j hj => if_pos (List.mem_range.1 hj)
theorem fillTo_set (φ : Nat → Int) {n k : Nat} (h : k < n) : (fillTo φ n k).set ((k : Int)).toNat (φ k) = fillTo φ n (k + 1) := by
  refine List.ext_getElem (by simp [fillTo]) fun j h1 h2 => ?_
  simp only [fillTo, List.length_set, List.length_map, List.length_range] at h1
  simp only [fillTo, List.getElem_set, List.getElem_map, List.getElem_range, Int.toNat_natCast]
  by_cases e : k = j
  · subst e; rw [if_pos rfl, if_pos (by omega)]
  rw [if_neg e]
  by_cases hj : j < k
  · rw [if_pos hj, if_pos (by omega)]
  rw [if_neg hj, if_neg (by omega)]
noncomputable def filTo (p : Nat → Prop) (φ : Nat → Int) (k : Nat) : List Int := ((List.range k).filter fun j => bP (p j)).map φ
theorem filTo_t {p : Nat → Prop} {φ : Nat → Int} {k : Nat} (h : p k) : filTo p φ k ++ [φ k] = filTo p φ (k + 1) := by simp [filTo, List.range_succ, bP_t h]
theorem filTo_f {p : Nat → Prop} {φ : Nat → Int} {k : Nat} (h : ¬ p k) : filTo p φ k = filTo p φ (k + 1) := by simp [filTo, List.range_succ, bP_f h]
theorem filTo_len (p : Nat → Prop) (φ : Nat → Int) (k : Nat) : (filTo p φ k).length ≤ k := by
  simp only [filTo, List.length_map]; exact Nat.le_trans (List.length_filter_le _ _) (by simp)
theorem filTo_mem {p : Nat → Prop} {φ : Nat → Int} {k : Nat} {x : Int} : x ∈ filTo p φ k ↔ ∃ j, j < k ∧ p j ∧ φ j = x := by
  simp only [filTo, List.mem_map, List.mem_filter, List.mem_range]
  exact ⟨fun ⟨j, ⟨h1, h2⟩, h3⟩ => ⟨j, h1, bP_iff.1 h2, h3⟩, fun ⟨j, h1, h2, h3⟩ => ⟨j, ⟨h1, bP_t h2⟩, h3⟩⟩
end Go.Proofs.Ytbiplocgenppoaa
namespace Go.Proofs.Ytbiplocgenppoaa
open _root_.Go.Proofs.Try
open Go.RowKit
def cancP (fs : List (Int → Int)) (m : Nat) : Prop := ∀ g h : Nat, h < g → g < m → ∃ φ ∈ fs, φ g = -1 ∨ φ g ≠ φ h
def bef (c : Cat) (f : Int) : Int → Int := fun g => c.th g f
def beh (c : Cat) (f : Int) : Int → Int := fun g => c.th f g
def monoP (c : Cat) (f : Int) : Prop := cancP [bef c f] c.s.length
def epiP (c : Cat) (f : Int) : Prop := cancP [beh c f] c.s.length
noncomputable def solL (φ : Int → Int) (v : Int) (k : Nat) : List Int := filTo (fun g => φ (g : Int) = v) (fun g => (g : Int)) k
theorem sol_t {φ : Int → Int} {v : Int} {k : Nat} (h : φ (k : Int) = v) : solL φ v k ++ [(k : Int)] = solL φ v (k + 1) := filTo_t (p := fun g => φ (g : Int) = v) h
theorem sol_f {φ : Int → Int} {v : Int} {k : Nat} (h : ¬ φ (k : Int) = v) : solL φ v k = solL φ v (k + 1) := filTo_f (p := fun g => φ (g : Int) = v) h
theorem sol_len (φ : Int → Int) (v : Int) (k : Nat) : (solL φ v k).length ≤ k := filTo_len _ _ _
theorem sol_zero (φ : Int → Int) (v : Int) : solL φ v 0 = [] := rfl
theorem sol_mem {φ : Int → Int} {v : Int} {k : Nat} {x : Int} : x ∈ solL φ v k ↔ ∃ j : Nat, j < k ∧ φ (j : Int) = v ∧ (j : Int) = x := filTo_mem
noncomputable def retL (c : Cat) (f : Int) : List Int := solL (beh c f) (at0 c.e (at0 c.s f)) c.s.length
noncomputable def secL (c : Cat) (f : Int) : List Int := solL (bef c f) (at0 c.e (at0 c.t f)) c.s.length
theorem th_m1 {c : Cat} (hS : ShapeP c) {f g : Int} (f0 : 0 ≤ f) (f1 : f < c.s.length) (g0 : 0 ≤ g) (g1 : g < c.s.length) (h : c.th f g ≠ -1) : at0 c.t f = at0 c.s g :=
  Classical.byContradiction fun hn => h ((th_none hS f0 f1 g0 g1).2 hn)
theorem ret_iff {c : Cat} (hS : ShapeP c) {f g : Int} (f0 : 0 ≤ f) (f1 : f < c.s.length) (g0 : 0 ≤ g) (g1 : g < c.s.length) :
    (at0 c.s g = at0 c.t f ∧ at0 c.t g = at0 c.s f ∧ c.th f g = at0 c.e (at0 c.s f)) ↔ beh c f g = at0 c.e (at0 c.s f) := by
  refine ⟨fun h => h.2.2, fun h => ?_⟩
  have hA := arrP hS f0 f1
  have hi := hS.idn (x := at0 c.s f) hA.s0 (by have := hA.s1; have := hS.el; omega)
  have h' : c.th f g = at0 c.e (at0 c.s f) := h
  have he := th_m1 hS f0 f1 g0 g1 (by rw [h']; have := hi.1; omega)
  have ht := th_ends hS f0 f1 g0 g1 he
  rw [h'] at ht
  exact ⟨he.symm, by rw [← ht.2.2, hi.2.2.2], h'⟩
theorem sec_iff {c : Cat} (hS : ShapeP c) {f g : Int} (f0 : 0 ≤ f) (f1 : f < c.s.length) (g0 : 0 ≤ g) (g1 : g < c.s.length) :
    (at0 c.s g = at0 c.t f ∧ at0 c.t g = at0 c.s f ∧ c.th g f = at0 c.e (at0 c.t f)) ↔ bef c f g = at0 c.e (at0 c.t f) := by
  refine ⟨fun h => h.2.2, fun h => ?_⟩
  have hA := arrP hS f0 f1
  have hi := hS.idn (x := at0 c.t f) hA.t0 (by have := hA.t1; have := hS.el; omega)
  have h' : c.th g f = at0 c.e (at0 c.t f) := h
  have he := th_m1 hS g0 g1 f0 f1 (by rw [h']; have := hi.1; omega)
  have ht := th_ends hS g0 g1 f0 f1 he
  rw [h'] at ht
  exact ⟨by rw [← ht.2.1, hi.2.2.1], he, h'⟩
theorem lift_iff {c : Cat} (hS : ShapeP c) {f g h : Int} (f0 : 0 ≤ f) (g0 : 0 ≤ g) (g1 : g < c.s.length) (h0 : 0 ≤ h) (h1 : h < c.s.length) :
    (at0 c.s h = at0 c.s f ∧ at0 c.t h = at0 c.s g ∧ c.th h g = f) ↔ bef c g h = f := by
  refine ⟨fun h => h.2.2, fun hh => ?_⟩
  have h' : c.th h g = f := hh
  have he := th_m1 hS h0 h1 g0 g1 (by rw [h']; omega)
  have ht := th_ends hS h0 h1 g0 g1 he
  rw [h'] at ht
  exact ⟨ht.2.1.symm, he, h'⟩
def badM (c : Cat) (f : Int) (g h : Nat) : Prop := at0 c.s g = at0 c.s h ∧ at0 c.t g = at0 c.s f ∧ at0 c.t h = at0 c.s f ∧ c.th g f = c.th h f
def noB (p : Nat → Nat → Prop) (m k l : Nat) : Prop := ∀ g h : Nat, (g < k ∨ g = k ∧ h < l) → g < h → h < m → ¬ p g h
theorem noB_zero (p : Nat → Nat → Prop) (m : Nat) : noB p m 0 0 := fun g h h1 => absurd h1 (by omega)
theorem noB_row {p : Nat → Nat → Prop} {m k : Nat} (h : noB p m k 0) : noB p m k (k + 1) := fun g x h1 h2 h3 => by
  rcases h1 with h1 | ⟨rfl, h1⟩
  · exact h g x (.inl h1) h2 h3
  omega
theorem noB_next {p : Nat → Nat → Prop} {m k l : Nat} (h : noB p m k l) (hn : ¬ p k l) : noB p m k (l + 1) := fun g x h1 h2 h3 => by
  by_cases he : g = k ∧ x = l
  · obtain ⟨rfl, rfl⟩ := he; exact hn
  exact h g x (by omega) h2 h3
theorem noB_end {p : Nat → Nat → Prop} {m k l : Nat} (h : noB p m k l) (hl : m ≤ l) : noB p m (k + 1) 0 := fun g x h1 h2 h3 => by
  rcases h1 with h1 | ⟨rfl, h1⟩
  · exact h g x (by omega) h2 h3
  omega
theorem badM_iff {c : Cat} (hS : ShapeP c) {f : Int} (f0 : 0 ≤ f) (f1 : f < c.s.length) {g h : Nat} (hg : g < c.s.length) (hh : h < c.s.length) : badM c f g h ↔ ¬ (bef c f h = -1 ∨ bef c f h ≠ bef c f g) := by
  unfold bef
  have k1 := th_none hS (f := (h : Int)) (g := f) (by omega) (by omega) f0 f1
  constructor
  · rintro ⟨h1, h2, h3, h4⟩ (h5 | h5)
    · exact k1.1 h5 h3
    exact h5 h4.symm
  intro hn
  have e1 : c.th h f = c.th g f := Classical.byContradiction fun h => hn (.inr h)
  have e2 := th_m1 hS (f := (h : Int)) (g := f) (by omega) (by omega) f0 f1 fun h => hn (.inl h)
  have e3 := th_m1 hS (f := (g : Int)) (g := f) (by omega) (by omega) f0 f1 fun h => hn (.inl (e1.trans h))
  have t1 := th_ends hS (f := (h : Int)) (g := f) (by omega) (by omega) f0 f1 e2
  have t2 := th_ends hS (f := (g : Int)) (g := f) (by omega) (by omega) f0 f1 e3
  exact ⟨by rw [← t1.2.1, ← t2.2.1, e1], e3, e2, e1.symm⟩
theorem mono_of {c : Cat} (hS : ShapeP c) {f : Int} (f0 : 0 ≤ f) (f1 : f < c.s.length) (h : noB (badM c f) c.s.length c.s.length 0) : monoP c f := fun g x hx hg =>
  ⟨bef c f, by simp, Classical.byContradiction fun hn => h x g (.inl (by omega)) hx hg ((badM_iff hS f0 f1 (by omega) hg).2 hn)⟩
theorem mono_not {c : Cat} (hS : ShapeP c) {f : Int} (f0 : 0 ≤ f) (f1 : f < c.s.length) {g h : Nat} (hgh : g < h) (hh : h < c.s.length) (hb : badM c f g h) : ¬ monoP c f := fun hm => by
  obtain ⟨φ, h1, h2⟩ := hm h g hgh hh
  rw [List.mem_singleton] at h1; subst h1
  exact (badM_iff hS f0 f1 (by omega) hh).1 hb h2
theorem assocI {c : Cat} (hC : IsCat c) {f g h : Int} (f0 : 0 ≤ f) (f1 : f < c.s.length) (g0 : 0 ≤ g) (g1 : g < c.s.length) (h0 : 0 ≤ h) (h1 : h < c.s.length) (e1 : at0 c.t f = at0 c.s g) (e2 : at0 c.t g = at0 c.s h) : c.th (c.th f g) h = c.th f (c.th g h) := by
  obtain ⟨a, rfl⟩ := Int.eq_ofNat_of_zero_le f0
  obtain ⟨b, rfl⟩ := Int.eq_ofNat_of_zero_le g0
  obtain ⟨d, rfl⟩ := Int.eq_ofNat_of_zero_le h0
  have := hC.assoc a b d (by omega) (by omega) (by omega)
  exact Classical.byContradiction fun hn => this ⟨e1, e2, hn⟩
theorem unitL {c : Cat} (hC : IsCat c) {f : Int} (f0 : 0 ≤ f) (f1 : f < c.s.length) : c.th (at0 c.e (at0 c.s f)) f = f ∧ c.th f (at0 c.e (at0 c.t f)) = f := by
  obtain ⟨a, rfl⟩ := Int.eq_ofNat_of_zero_le f0
  exact hC.idl a (by omega)
theorem findGo_in {c : Cat} {f : Int} : ∀ {xs : List Int}, (∃ g ∈ xs, invAt c f g) → findGo c f xs ∈ xs ∧ invAt c f (findGo c f xs)
  | [], h => by obtain ⟨g, h, _⟩ := h; simp at h
  | g :: r, h => by
    by_cases hi : invAt c f g
    · have : findGo c f (g :: r) = g := if_pos hi
      rw [this]; exact ⟨List.mem_cons_self .., hi⟩
    have : findGo c f (g :: r) = findGo c f r := if_neg hi
    rw [this]
    obtain ⟨x, hx, hx2⟩ := h
    have ih := findGo_in (c := c) (f := f) (xs := r) (by
        rcases List.mem_cons.1 hx with rfl | hx
        · exact absurd hx2 hi
        · exact ⟨x, hx, hx2⟩)
    exact ⟨List.mem_cons_of_mem _ ih.1, ih.2⟩
noncomputable def invN (c : Cat) (f : Int) : Int := findGo c f (homTo c (at0 c.t f) (at0 c.s f) c.s.length)
theorem invN_in {c : Cat} {f : Int} (h : hasInv c f) : 0 ≤ invN c f ∧ invN c f < c.s.length ∧ at0 c.s (invN c f) = at0 c.t f ∧ at0 c.t (invN c f) = at0 c.s f ∧ invAt c f (invN c f) := by
  have := findGo_in h
  obtain ⟨j, h1, h2, h3, h4⟩ := mem_homTo.1 this.1
  exact ⟨by show 0 ≤ findGo _ _ _; omega, by show findGo _ _ _ < _; omega, by show at0 c.s (findGo _ _ _) = _; rw [h2]; exact h3, by show at0 c.t (findGo _ _ _) = _; rw [h2]; exact h4, this.2⟩
theorem hasInv_of {c : Cat} {f g : Int} (g0 : 0 ≤ g) (g1 : g < c.s.length) (h1 : at0 c.s g = at0 c.t f) (h2 : at0 c.t g = at0 c.s f) (h : invAt c f g) : hasInv c f := by
  obtain ⟨j, rfl⟩ := Int.eq_ofNat_of_zero_le g0
  exact ⟨j, mem_homTo.2 ⟨j, by omega, rfl, h1, h2⟩, h⟩
theorem inv_both {c : Cat} {f : Int} (h : hasInv c f) : ∃ g : Int, g ∈ retL c f ∧ g ∈ secL c f := by
  have hi := invN_in h
  obtain ⟨j, hj⟩ := Int.eq_ofNat_of_zero_le hi.1
  rw [hj] at hi
  exact ⟨j, sol_mem.2 ⟨j, by omega, hi.2.2.2.2.1, rfl⟩, sol_mem.2 ⟨j, by omega, hi.2.2.2.2.2, rfl⟩⟩
def addK (s k : Int) (b : Bool) : Int := bif b then s + k else s
theorem addK_t {s k : Int} {b : Bool} (h : b = true) : addK s k b = s + k := by rw [h]; rfl
theorem addK_f {s k : Int} {b : Bool} (h : b = false) : addK s k b = s := by rw [h]; rfl
noncomputable def kindN (c : Cat) (f : Int) : Int := addK (addK (addK (addK (addK 0 1 (bP (monoP c f))) 2 (bP (epiP c f))) 4 (decide (0 < ((retL c f).length : Int)))) 8 (decide (0 < ((secL c f).length : Int)))) 16 (bP (hasInv c f))
noncomputable def fLiftsOf (c : Cat) (f g : Int) : List Int × Int := if arrErr c [f, g] = 0 then (if at0 c.t f = at0 c.t g then (solL (bef c g) f c.s.length, 0) else ([], 5)) else ([], arrErr c [f, g])
noncomputable def fArrowKinds (c : Cat) : List Int × Int := if fIsCategory c = true then (tabTo (fun f => kindN c (f : Int)) c.s.length, 0) else ([], 1)
theorem LiftsOf_e {c : Cat} {f g : Int} (h : ¬ arrErr c [f, g] = 0) : fLiftsOf c f g = ([], arrErr c [f, g]) := if_neg h
theorem LiftsOf_s {c : Cat} {f g : Int} (h : arrErr c [f, g] = 0) (h2 : ¬ at0 c.t f = at0 c.t g) : fLiftsOf c f g = ([], 5) := by unfold fLiftsOf; rw [if_pos h, if_neg h2]
theorem LiftsOf_t {c : Cat} {f g : Int} (h : arrErr c [f, g] = 0) (h2 : at0 c.t f = at0 c.t g) : fLiftsOf c f g = (solL (bef c g) f c.s.length, 0) := by unfold fLiftsOf; rw [if_pos h, if_pos h2]
theorem ArrowKinds_e {c : Cat} (h : fIsCategory c = false) : fArrowKinds c = ([], 1) := if_neg (by rw [h]; decide)
theorem ArrowKinds_t {c : Cat} (h : fIsCategory c = true) : fArrowKinds c = (tabTo (fun f => kindN c (f : Int)) c.s.length, 0) := if_pos h
end Go.Proofs.Ytbiplocgenppoaa
namespace Go.Proofs.Ytbiplocgenppoaa
open _root_.Go.Proofs.Try
open Go.RowKit
abbrev Ent (α : Type) := Int × Int × α
structure Lab (α : Type) where
  z : Nat
  lc : α → List Value
  tE : TypeId
  tS : TypeId
  tM : TypeId
  bts : Nat
  zc : Value
  td : TypeDesc
  len : ∀ l, (lc l).length = z
  one : ∀ l, (lc l).all (·.oneCell') = true
  inf : (Try.prog.info? tE).map (fun i => (i.zero, i.size, i.bytes)) = some (some zc, z + 2, bts)
  zl : zc.cells.size = z + 2
  cap : Nat
  hc1 : 1 ≤ cap
  hc2 : cap ≤ 17592186044415
  hcb : cap * bts ≤ 140737488355328
  hz : z ≤ 64
  ud : Try.prog.underlying tE = some td
  row : td.isRow = true
  ul : Try.prog.underlying tS = some (.slice tE)
  el : Try.prog.elem tS = tE
  um : Try.prog.underlying tM = some (.map tE 2)
  chk : ∀ (a b : Int) (l : α) (em : Bool) (w : World), (Instr.checkKey em 10000 tE (.agg (Value.int .i64 a :: Value.int .i64 b :: lc l).toArray)).run Try.prog w = .ok () w
  eqk : ∀ (a b a' b' : Int) (l l' : α) (w : World), (Op.equal tE (.agg (Value.int .i64 a :: Value.int .i64 b :: lc l).toArray) (.agg (Value.int .i64 a' :: Value.int .i64 b' :: lc l').toArray)).run Try.prog w = .ok (bP (a = a' ∧ b = b' ∧ l = l')) w
variable {α : Type}
def enc (L : Lab α) (e : Ent α) : List Value := Value.int .i64 e.1 :: Value.int .i64 e.2.1 :: L.lc e.2.2
theorem fold_set (l : List Value) : ∀ (k : Nat) (cs : Array Value), k + l.length = cs.size → (l.zipIdx k).foldl (fun (cs : Array Value) x => cs.setIfInBounds x.2 x.1) cs = (cs.toList.take k ++ l).toArray := by
  induction l with
  | nil =>
    intro k cs h
    simp only [List.length_nil, Nat.add_zero] at h
    subst h
    rw [List.take_of_length_le (by simp)]; simp
  | cons a l ih =>
    intro k cs h
    simp only [List.length_cons] at h
    rw [List.zipIdx_cons, List.foldl_cons, ih (k + 1) _ (by simp; omega)]
    apply congrArg List.toArray
    have hk : k < cs.toList.length := by simp; omega
    have : (cs.setIfInBounds k a).toList.take (k + 1) = cs.toList.take k ++ [a] := by
      rw [Array.toList_setIfInBounds, List.take_succ_eq_append_getElem (by simpa using hk), List.take_set_of_le (Nat.le_refl k)]
      simp
    rw [this]; simp
@[irreducible] def atE [Inhabited α] (es : List (Ent α)) (i : Int) : Ent α := es.getD i.toNat default
def eltE (z : Nat) (v : Value) (i : Int) : Value := match v with | .slice (some a) _ _ => .pointer (some ⟨a.block, a.off + i.toNat * z, none⟩) | _ => .pointer none
section
variable {w0 : World} {is : List Itm} {ops : Array Oper} {Q : Exit → Act → World → Prop} {o : Oper} {rest : List Oper} {N : Frm} {e : Env} {v : Value} {d : Nat} {K : Act → World → Prop}
end
noncomputable def posE [DecidableEq α] (es : List (Ent α)) (e : Ent α) : Int := if e ∈ es then (es.idxOf e : Int) else 0
section
variable {w0 : World} {is : List Itm} {ops : Array Oper} {Q : Exit → Act → World → Prop} {o : Oper} {rest : List Oper} {N : Frm} {e : Env} {v : Value} {d : Nat} {K : Act → World → Prop}
end
end Go.Proofs.Ytbiplocgenppoaa
namespace Go.Proofs.Ytbiplocgenppoaa
open _root_.Go.Proofs.Try
open Go.RowKit
section
variable {w0 : World} {is is0 : List Itm} {ops : Array Oper} {Q : Exit → Act → World → Prop} {o : Oper} {rest : List Oper} {N : Frm} {e : Env} {v : Value} {d : Nat} {K : Act → World → Prop}
variable {f : FuncId} {fn : Func} {ags : Array Operand} {ts : Array TypeId} {vs caps : List Value}
theorem ga_two {fuel : Nat} {listed : Array Bool} {oi oj : Oper} (i j : Nat) (hr : Region.ready .any ops listed = [i, j]) (hi : ops[i]? = some oi) (hj : ops[j]? = some oj) (wi : Want ops e oi true) (wj : Want ops e oj true)
    (h1 : ∀ K : Act → World → Prop, (∀ is e, (∀ w, Mem w0 w is → Mem w0 w is0) → GA w0 is0 is N ops Q fuel (listed.setIfInBounds i true) e → GK w0 is N K e) → GO w0 is N oi e Q K)
    (h2 : ∀ K : Act → World → Prop, (∀ is e, (∀ w, Mem w0 w is → Mem w0 w is0) → GA w0 is0 is N ops Q fuel (listed.setIfInBounds j true) e → GK w0 is N K e) → GO w0 is N oj e Q K) : GA w0 is0 is N ops Q (fuel + 1) listed e := by
  intro w a h0 M F
  refine wpAnyH_ready hr (by simp) (AllReadyH.cons hi (fun K' hK => ?_) (AllReadyH.cons hj (fun K' hK => ?_) AllReadyH.nil))
  · rw [if_pos (want_eq wi F)]
    exact h1 K' (fun is' e' hS hg w' a' M' F' => hK.out a' w' (hS w' M') fun h0' => hg w' a' h0' M' F') w a M F
  rw [if_pos (want_eq wj F)]
  exact h2 K' (fun is' e' hS hg w' a' M' F' => hK.out a' w' (hS w' M') fun h0' => hg w' a' h0' M' F') w a M F
theorem gat {fuel : Nat} {listed : Array Bool} {oi oj : Oper} (i j : Nat)
 (h1 : ∀ K : Act → World → Prop, (∀ is e, (∀ w, Mem w0 w is → Mem w0 w is0) → GA w0 is0 is N ops Q fuel (listed.setIfInBounds i true) e → GK w0 is N K e) → GO w0 is N oi e Q K)
 (h2 : ∀ K : Act → World → Prop, (∀ is e, (∀ w, Mem w0 w is → Mem w0 w is0) → GA w0 is0 is N ops Q fuel (listed.setIfInBounds j true) e → GK w0 is N K e) → GO w0 is N oj e Q K)
 (hr : Region.ready .any ops listed = [i, j] := by kernel_rfl) (hi : ops[i]? = some oi := by rfl) (hj : ops[j]? = some oj := by rfl) (wi : Want ops e oi true := by exact .free rfl) (wj : Want ops e oj true := by exact .free rfl) : GA w0 is0 is N ops Q (fuel + 1) listed e :=
  ga_two i j hr hi hj wi wj h1 h2
theorem ga_three {fuel : Nat} {listed : Array Bool} {oa ob oc : Oper} (ia ib ic : Nat) (hr : Region.ready .any ops listed = [ia, ib, ic]) (ha : ops[ia]? = some oa) (wa : Want ops e oa true) (hb : ops[ib]? = some ob) (wb : Want ops e ob true) (hc : ops[ic]? = some oc) (wc : Want ops e oc true) 
    (ka : ∀ K : Act → World → Prop, (∀ is e, (∀ w, Mem w0 w is → Mem w0 w is0) → GA w0 is0 is N ops Q fuel (listed.setIfInBounds ia true) e → GK w0 is N K e) → GO w0 is N oa e Q K)
    (kb : ∀ K : Act → World → Prop, (∀ is e, (∀ w, Mem w0 w is → Mem w0 w is0) → GA w0 is0 is N ops Q fuel (listed.setIfInBounds ib true) e → GK w0 is N K e) → GO w0 is N ob e Q K)
    (kc : ∀ K : Act → World → Prop, (∀ is e, (∀ w, Mem w0 w is → Mem w0 w is0) → GA w0 is0 is N ops Q fuel (listed.setIfInBounds ic true) e → GK w0 is N K e) → GO w0 is N oc e Q K) : GA w0 is0 is N ops Q (fuel + 1) listed e := by
  intro w a h0 M F
  refine wpAnyH_ready hr (by simp) (AllReadyH.cons ha (fun K' hK => ?_) (AllReadyH.cons hb (fun K' hK => ?_) (AllReadyH.cons hc (fun K' hK => ?_) AllReadyH.nil)))
  · rw [if_pos (want_eq wa F)]
    exact ka K' (fun is' e' hS hg w' a' M' F' => hK.out a' w' (hS w' M') fun h0' => hg w' a' h0' M' F') w a M F
  · rw [if_pos (want_eq wb F)]
    exact kb K' (fun is' e' hS hg w' a' M' F' => hK.out a' w' (hS w' M') fun h0' => hg w' a' h0' M' F') w a M F
  rw [if_pos (want_eq wc F)]
  exact kc K' (fun is' e' hS hg w' a' M' F' => hK.out a' w' (hS w' M') fun h0' => hg w' a' h0' M' F') w a M F
theorem ga_four {fuel : Nat} {listed : Array Bool} {oa ob oc od : Oper} (ia ib ic id : Nat) (hr : Region.ready .any ops listed = [ia, ib, ic, id]) (ha : ops[ia]? = some oa) (wa : Want ops e oa true) (hb : ops[ib]? = some ob) (wb : Want ops e ob true) (hc : ops[ic]? = some oc) (wc : Want ops e oc true) (hd : ops[id]? = some od) (wd : Want ops e od true) 
    (ka : ∀ K : Act → World → Prop, (∀ is e, (∀ w, Mem w0 w is → Mem w0 w is0) → GA w0 is0 is N ops Q fuel (listed.setIfInBounds ia true) e → GK w0 is N K e) → GO w0 is N oa e Q K)
    (kb : ∀ K : Act → World → Prop, (∀ is e, (∀ w, Mem w0 w is → Mem w0 w is0) → GA w0 is0 is N ops Q fuel (listed.setIfInBounds ib true) e → GK w0 is N K e) → GO w0 is N ob e Q K)
    (kc : ∀ K : Act → World → Prop, (∀ is e, (∀ w, Mem w0 w is → Mem w0 w is0) → GA w0 is0 is N ops Q fuel (listed.setIfInBounds ic true) e → GK w0 is N K e) → GO w0 is N oc e Q K)
    (kd : ∀ K : Act → World → Prop, (∀ is e, (∀ w, Mem w0 w is → Mem w0 w is0) → GA w0 is0 is N ops Q fuel (listed.setIfInBounds id true) e → GK w0 is N K e) → GO w0 is N od e Q K) : GA w0 is0 is N ops Q (fuel + 1) listed e := by
  intro w a h0 M F
  refine wpAnyH_ready hr (by simp) (AllReadyH.cons ha (fun K' hK => ?_) (AllReadyH.cons hb (fun K' hK => ?_) (AllReadyH.cons hc (fun K' hK => ?_) (AllReadyH.cons hd (fun K' hK => ?_) AllReadyH.nil))))
  · rw [if_pos (want_eq wa F)]
    exact ka K' (fun is' e' hS hg w' a' M' F' => hK.out a' w' (hS w' M') fun h0' => hg w' a' h0' M' F') w a M F
  · rw [if_pos (want_eq wb F)]
    exact kb K' (fun is' e' hS hg w' a' M' F' => hK.out a' w' (hS w' M') fun h0' => hg w' a' h0' M' F') w a M F
  · rw [if_pos (want_eq wc F)]
    exact kc K' (fun is' e' hS hg w' a' M' F' => hK.out a' w' (hS w' M') fun h0' => hg w' a' h0' M' F') w a M F
  rw [if_pos (want_eq wd F)]
  exact kd K' (fun is' e' hS hg w' a' M' F' => hK.out a' w' (hS w' M') fun h0' => hg w' a' h0' M' F') w a M F
theorem gc_cut {σ : Type} {c : Code} (C : Env) (E : σ → Env) (ch : σ → List (Nat × Itm)) (nw : σ → List Itm) (hC : Sub C e) (h1 : ∀ s, GK w0 (updL is (ch s) ++ nw s) N (Q .normal) (E s ++ C)) (h2 : (∀ s, GK w0 (updL is (ch s) ++ nw s) N (Q .normal) (E s ++ C)) → GC w0 is N c Q e) : GC w0 is N c Q e := h2 h1
def pickL : List Itm → List Nat → List Itm
  | _, [] => []
  | is, k :: ks => match is[k]? with
    | some i => i :: pickL (is.eraseIdx k) ks
    | none => pickL is ks
theorem star_pickL : ∀ (ks : List Nat) (is : List Itm) {w : World} {S : Nat → Prop}, Star is w S → Star (pickL is ks) w S
  | [], _, _, _, _ => trivial
  | k :: ks, is, w, S, h => by
    unfold pickL
    cases hi : is[k]? with
    | none => exact star_pickL ks is h
    | some i =>
      obtain ⟨S1, S2, k1, k2, hd, h1, h2⟩ := star_pick is hi h
      exact ⟨S1, S2, k1, k2, hd, h1, star_pickL ks _ h2⟩
theorem gk_pickL (ks : List Nat) (h : GK w0 (pickL is ks) N K e) : GK w0 is N K e := fun w a M F => h w a ⟨M.1, star_pickL ks is M.2⟩ F
theorem qt_makeF {f : Fn} {cs : Array Operand} {us : List Value} (hop : o.op = .makeFunc f #[] cs) (hc : evoL e cs.toList = some us) : QV w0 is o e (.func f #[] us.toArray) := fun w ρ M F => by
  have : cs.map ρ = us.toArray := by
    have h : ∀ {xs : List Operand} {vs : List Value}, evoL e xs = some vs → xs.map ρ = vs := by
      intro xs
      induction xs with
      | nil => intro vs hv; simpa [evoL] using hv
      | cons x xs ih =>
        intro vs hv
        unfold evoL at hv
        cases h1 : evo e x with
        | none => rw [h1] at hv; simp at hv
        | some v =>
          cases h2 : evoL e xs with
          | none => rw [h1, h2] at hv; simp at hv
          | some us =>
            rw [h1, h2] at hv
            simp only [Option.some.injEq] at hv
            rw [← hv, List.map_cons, F x v h1, ih h2]
    have := h hc
    rw [← this]; apply Array.toList_inj.1; simp
  simp [execOp, hop, Instr.makeFunc, this]
theorem mem_nilU {w : World} (M : Mem w0 w is) : Mem w0 w (is ++ [own2U (.slice none 0 0) [] []]) :=
  mem_new M (Below.refl _ _) ⟨rfl, by simp, World.ownsRow_nil w 0 _ 1, fun i hi => by simp at hi, fun i j _ hj => by simp at hj, fun q hq => by simp [Value.ownBlock] at hq⟩
theorem gc_nilU {c : Code} (hk : GC w0 (is ++ [own2U (.slice none 0 0) [] []]) N c Q e) : GC w0 is N c Q e := fun w a M F => hk w a (mem_nilU M) F
theorem ret_0n {fn : Func} {R : Ending → World → Prop} (h : fn.results = #[]) (hR : ∀ w, Mem w0 w is → R (.returned (.tuple #[])) w) (hds : N.ds = [] := by rfl) : GK w0 is N (bodyPost Try.prog fn R .normal) e :=
  fun w ac M F => bodyPost_end (v := .tuple #[]) (by simp [results, h]) (F.nil hds) (hR w M)
theorem gc_enterM {N : Nat} {c : Code} {w : World} {l : List Value} (M : Mem w0 w is) (hN : l.length = N) (he : ∀ t v, look e t = some v → l[t]? = some v) (h : GC w0 is (Frm.of N) c Q e) : c.wp Try.prog Q ⟨l.toArray, []⟩ w := wp_out (h w _ M (fit_enter hN he) rdy_of)
end
section
variable {w0 : World} {is : List Itm} {o : Oper} {e : Env}
end
end Go.Proofs.Ytbiplocgenppoaa
namespace Go.Proofs.Ytbiplocgenppoaa
open _root_.Go.Proofs.Try
open Go.RowKit
section
variable {α : Type} [Inhabited α]
theorem atE_mem {es : List (Ent α)} {k : Nat} (h : k < es.length) : atE es (k : Int) ∈ es := by
 simp only [atE, Int.toNat_natCast, List.getD_eq_getElem?_getD, List.getElem?_eq_getElem h, Option.getD_some]; exact List.getElem_mem h
theorem atE_eq {es : List (Ent α)} {k : Nat} (h : k < es.length) : atE es (k : Int) = es[k] := by
 simp [atE, List.getD_eq_getElem?_getD, List.getElem?_eq_getElem h]
variable [DecidableEq α]
noncomputable def cellE (es : List (Ent α)) (th : α → α → α) (f g : Ent α) : Int := if f.2.1 = g.1 then posE es (f.1, g.2.1, th f.2.2 g.2.2) else -1
noncomputable def rowE (es : List (Ent α)) (th : α → α → α) (f : Ent α) : List Int := tabTo (fun j => cellE es th f (atE es (j : Int))) es.length
noncomputable def buildE (n : Int) (es : List (Ent α)) (u : Nat → α) (th : α → α → α) : Cat :=
 ⟨n, tabTo (fun i => (atE es (i : Int)).1) es.length, tabTo (fun i => (atE es (i : Int)).2.1) es.length, tabTo (fun x => posE es ((x : Int), (x : Int), u x)) n.toNat, rowsTo (fun i => rowE es th (atE es (i : Int))) es.length⟩
end
end Go.Proofs.Ytbiplocgenppoaa
