import Derived.Test.YtpcabkdkdnchaaaGreatN21
import Derived.Test.YtpcabkdkdnchaaaGreatN14
import Derived.Test.YtpcabkdkdnchaaaGreatN17
import Derived.Test.YtpcabkdkdnchaaaGreatN9
set_option linter.unusedSimpArgs false
set_option linter.unusedVariables false
set_option linter.unusedSectionVars false
namespace Go.Proofs.YtpcabkdkdnchaaaGreat
open Go.RowKit
theorem ulEP : Tryz.prog.underlying 165 = some (.slice (Tryz.prog.elem 165)) := by kernel_rfl
theorem szEP : (Tryz.prog.info? (Tryz.prog.elem 165)).map (fun i => i.size) = some 1 := by kernel_rfl
set_option maxHeartbeats 1000000 in
set_option maxRecDepth 100000 in
theorem leastsP_any (w : World) (v : Value) (p : List Int) (h : Rd w v p) (hp : p = clsOf p) :
    Calls Tryz.prog 141 #[v] w (RetL w (lstL p (nC p p.length))) := by
  obtain ⟨va, vc, rfl⟩ := rd_form h
  have hxl : p.length ≤ 17592186044415 := by obtain ⟨_, _, _, hl, _⟩ := h; exact hl
  go_enter Tryz.func141, Tryz.ntmps141
  refine gc_enter (N := 23) rfl (look_cons (k := 0) rfl (look_nil _)) ?_
  refine gc_seq fun K1 hK1 => ?_
  refine gc_region ?_
  refine g_v (.free rfl) rfl rfl (qt_assign rfl rfl) ?_
  refine g_nil ?_
  refine gk_then (hK1 _ _ ?_)
  refine gc_seq fun K2 hK2 => ?_
  refine gc_region ?_
  refine g_v (.free rfl) rfl rfl (qt_assign rfl rfl) ?_
  refine g_nil ?_
  refine gk_then (hK2 _ _ ?_)
  refine gc_seq fun K3 hK3 => ?_
  refine gc_seq fun K4 hK4 => ?_
  refine gc_region ?_
  refine g_v (.free rfl) rfl rfl (qt_move rfl rfl) ?_
  refine g_v (.free rfl) rfl rfl (qt_len rfl rfl ulEP (fun w M => lenV_rd h)) ?_
  refine g_v (.free rfl) rfl rfl (qt_move rfl rfl) ?_
  refine g_nil ?_
  refine gk_then (hK4 _ _ ?_)
  refine gc_block ?_
  refine gc_nilS ?_
  try simp only [List.nil_append, List.cons_append, List.append_assoc, List.set_cons_succ, List.set_cons_zero]
  refine gc_loop ([(0, _), (2, _), (6, _), (7, _)] : Env) (fun s : Nat × (Option Addr) × Nat => (fun (k : Nat) (a : Option Addr) (q : Nat) => ([(3, .slice a (lstL p (nC p k)).length q), (8, .int .i64 (k : Int))] : Env)) s.1 s.2.1 s.2.2) (fun s : Nat × (Option Addr) × Nat => (fun (k : Nat) (a : Option Addr) (q : Nat) => ([(0, own1I (.slice a (lstL p (nC p k)).length q) (lstL p (nC p k)))] : List (Nat × Itm))) s.1 s.2.1 s.2.2) (fun s : Nat × (Option Addr) × Nat => (fun (k : Nat) (a : Option Addr) (q : Nat) => k ≤ p.length) s.1 s.2.1 s.2.2) (fun s : Nat × (Option Addr) × Nat => (fun (k : Nat) (a : Option Addr) (q : Nat) => p.length - k) s.1 s.2.1 s.2.2) (0, _, _) (sub_cons rfl (sub_cons rfl (sub_cons rfl (sub_cons rfl (sub_cons rfl (sub_cons rfl sub_nil)))))) rfl (Nat.zero_le _) ?_
  rintro ⟨k, a, q⟩ hinv KL5 hKL5
  simp only [updL, List.foldl_cons, List.foldl_nil, List.set_cons_succ, List.set_cons_zero, List.cons_append, List.nil_append] at hinv hKL5 ⊢
  have hk := hinv
  have hl := lstL_len p (nC p k)
  have hn := nC_le p k
  refine gc_seq fun K6 hK6 => ?_
  refine gc_region ?_
  refine g_v (.free rfl) rfl rfl (qt_lss rfl rfl rfl) ?_
  refine g_nil ?_
  refine gk_then (hK6 _ _ ?_)
  refine gc_seq fun K7 hK7 => ?_
  refine gc_cond rfl (fun hc0 => ?_) (fun hc0 => ?_)
  · try simp only [decide_eq_true_eq, decide_eq_false_iff_not, Bool.not_eq_true', Bool.not_eq_false', Bool.not_eq_eq_eq_not, Bool.not_true, Bool.not_false, ne_eq, Decidable.not_not, Classical.not_not] at hc0
    refine gc_skip ?_
    refine gk_then (hK7 _ _ ?_)
    refine gc_seq fun K8 hK8 => ?_
    refine gc_block ?_
    refine gc_seq fun K9 hK9 => ?_
    refine gc_region ?_
    refine g_v (.free rfl) rfl rfl (qt_move rfl rfl) ?_
    refine g_v (.free rfl) rfl rfl (qt_index rfl rfl rfl ulEP szEP (fun w M => lenA_rd h) (by omega) (by omega)) ?_
    refine g_v (.free rfl) rfl rfl (qt_load1 rfl rfl Tryz.underlying2 rfl (fun w M => mem_rd M h) (by omega) (by omega)) ?_
    refine g_v (.free rfl) rfl rfl (qt_assign rfl rfl) ?_
    refine g_v (.free rfl) rfl rfl (qt_assign rfl rfl) ?_
    refine g_nil ?_
    refine gk_then (hK9 _ _ ?_)
    refine gc_seq fun K10 hK10 => ?_
    refine gc_region ?_
    refine g_v (.free rfl) rfl rfl (qt_move rfl rfl) ?_
    refine g_v (.free rfl) rfl rfl (qt_move rfl rfl) ?_
    refine g_v (.free rfl) rfl rfl (qt_len rfl rfl ulE1 (fun w M => lenV_own1 (n := 0) rfl M)) ?_
    refine g_v (.free rfl) rfl rfl (qt_eql rfl rfl rfl) ?_
    refine g_nil ?_
    refine gk_then (hK10 _ _ ?_)
    refine gc_cond rfl (fun hc1 => ?_) (fun hc1 => ?_)
    · try simp only [decide_eq_true_eq, decide_eq_false_iff_not, Bool.not_eq_true', Bool.not_eq_false', Bool.not_eq_eq_eq_not, Bool.not_true, Bool.not_false, ne_eq, Decidable.not_not, Classical.not_not] at hc1
      refine gc_region ?_
      refine g_v (.free rfl) rfl rfl (qt_move rfl rfl) ?_
      refine g_v (.free rfl) rfl rfl (qt_move rfl rfl) ?_
      refine g_op (.free rfl) fun K12 hK12 => ?_
      refine go_slice1 rfl rfl rfl rfl Tryz.underlying22 ?_
      intro B11
      refine hK12 _ _ ?_
      refine g_op (.free rfl) fun K14 hK14 => ?_
      refine go_append (n := 0) (m := 1) rfl rfl rfl Tryz.underlying22 rfl rfl rfl rfl (by omega) ?_
      intro va13 vc13
      refine hK14 _ _ ?_
      refine g_v (.free rfl) rfl rfl (qt_assign rfl rfl) ?_
      refine g_nil ?_
      refine gk_block ?_
      refine gk_then (hK8 _ _ ?_)
      refine gc_region ?_
      refine g_v (.free rfl) rfl rfl (qt_add rfl rfl rfl (by omega)) ?_
      refine g_v (.free rfl) rfl rfl (qt_move rfl rfl) ?_
      refine g_nil ?_
      simp only [lst_t hp (k := k) (by omega) (by assumption)]
      refine gk_then (gk_take 1 ?_)
      refine gk_sub ?hs_15 (hKL5 (k + 1, _, _) ?hi_15 ?hm_15)
      case hs_15 => exact (sub_cons rfl (sub_cons rfl (sub_cons rfl (sub_cons rfl (sub_cons rfl (sub_cons rfl sub_nil))))))
      case hi_15 => omega
      case hm_15 => omega
    · try simp only [decide_eq_true_eq, decide_eq_false_iff_not, Bool.not_eq_true', Bool.not_eq_false', Bool.not_eq_eq_eq_not, Bool.not_true, Bool.not_false, ne_eq, Decidable.not_not, Classical.not_not] at hc1
      refine gc_skip ?_
      refine gk_block ?_
      refine gk_then (hK8 _ _ ?_)
      refine gc_region ?_
      refine g_v (.free rfl) rfl rfl (qt_add rfl rfl rfl (by omega)) ?_
      refine g_v (.free rfl) rfl rfl (qt_move rfl rfl) ?_
      refine g_nil ?_
      rw [lst_f hp (k := k) (by omega) (by assumption)]
      refine gk_then (gk_take 1 ?_)
      refine gk_sub ?hs_16 (hKL5 (k + 1, _, _) ?hi_16 ?hm_16)
      case hs_16 => exact (sub_cons rfl (sub_cons rfl (sub_cons rfl (sub_cons rfl (sub_cons rfl (sub_cons rfl sub_nil))))))
      case hi_16 => omega
      case hm_16 => omega
  · try simp only [decide_eq_true_eq, decide_eq_false_iff_not, Bool.not_eq_true', Bool.not_eq_false', Bool.not_eq_eq_eq_not, Bool.not_true, Bool.not_false, ne_eq, Decidable.not_not, Classical.not_not] at hc0
    refine gc_exit ?_
    refine gk_then_exit ?_
    refine gk_then_exit ?_
    refine gk_block_hit ?_
    refine gk_then (hK3 _ _ ?_)
    refine gc_seq fun K17 hK17 => ?_
    refine gc_region ?_
    refine g_v (.free rfl) rfl rfl (qt_move rfl rfl) ?_
    refine g_v (.free rfl) rfl rfl (qt_assign rfl rfl) ?_
    refine g_nil ?_
    refine gk_then (hK17 _ _ ?_)
    refine gc_ret ?_
    refine ret_1 rfl rfl  (fun w M => ?_)
    obtain rfl : k = p.length := by omega
    exact ⟨_, rfl, mem_own1 (n := 0) M rfl, M.1⟩
end Go.Proofs.YtpcabkdkdnchaaaGreat
set_option linter.unusedSimpArgs false
set_option linter.unusedVariables false
set_option linter.unusedSectionVars false
namespace Go.Proofs.YtpcabkdkdnchaaaGreat
open Go.RowKit
noncomputable def askB (F : Fct) (b : Bool) : Bool := if fIsFunctor F = true then b else false
theorem askB_t {F : Fct} {b : Bool} (h : fIsFunctor F = true) : askB F b = b := if_pos h
theorem askB_f {F : Fct} {b : Bool} (h : fIsFunctor F = false) : askB F b = false := if_neg (by rw [h]; decide)
end Go.Proofs.YtpcabkdkdnchaaaGreat
set_option linter.unusedSimpArgs false
set_option linter.unusedVariables false
set_option linter.unusedSectionVars false
namespace Go.Proofs.YtpcabkdkdnchaaaGreat
open Go.RowKit
set_option maxHeartbeats 800000 in
set_option maxRecDepth 100000 in
theorem classesG_any (w : World) (base : Nat) (v : Value) (R : List Int) (h : Lead w base v R) :
    Calls Tryz.prog 140 #[v] w (fun e w' => ∃ y, e = .returned y ∧ Sl w' w.heap.size y (clsOf R) ∧ (∀ B : World, Below B.heap.size B w → B.heap.size ≤ base → Below B.heap.size B w') ∧ w.grownBy w' v.ownBlock) := by
  have hRl := h.len
  obtain ⟨l0, hs0, hI0, hR0⟩ := h
  have hll : l0.length = R.length := by rw [← hR0, Rts_len]
  have hwf : ∀ x ∈ R, (Lit.int .i64 x).wf = true := fun x hx => by
    rw [← hR0] at hx
    simp only [Rts, List.mem_map, List.mem_range] at hx
    obtain ⟨i, hi, rfl⟩ := hx
    have := (rt_root hI0 i).2
    exact WalkArith.wf_i64 (by omega)
  have HWF := Lib.hid hwf; clear hwf
  obtain ⟨a, cap, rfl, hf⟩ := sl_form hs0
  have HF := Lib.hid hf; clear hf
  have hlt0 := hs0.1.lt
  have HLT := Lib.hid hlt0; clear hlt0
  have H0 := Lib.hid hs0; clear hs0
  rw [hll] at H0 HF HLT
  rw [hll]
  have HRL := Lib.hid hll; have HR0 := Lib.hid hR0; have HI0 := Lib.hid hI0; clear hll hR0 hI0
  go_enter Tryz.func140, Tryz.ntmps140
  go_wp2_with (at_make; refine wp_make64 rfl _ _ _ rfl Tryz.underlying22 .i64 .i64 _ _ R.length rfl rfl rfl rfl hRl ?_; intro w1 hs1 hb1 hz1)
  have L1 : Hid (Lead w1 base (.slice a R.length cap) R) := ⟨l0, sl_below hb1 H0.out, HI0.out, HR0.out⟩
  have HS1 := Lib.hid hs1
  have hap1 : Apart (.slice a R.length cap) (.slice (some ⟨w.heap.size, 0, none⟩) R.length R.length) := apart_of H0.out hs1
  have HAP := Lib.hid hap1; clear hap1 hs1
  have hgr0 : w.grownBy w1 (Value.slice a R.length cap).ownBlock := ⟨hb1.os, hb1.tape, hb1.output, hb1.size, fun i hi _ => hb1.block i hi⟩
  have HGR0 := Lib.hid hgr0; clear hgr0
  go_loopw [10] (fun i wr => ∃ k : Nat, k ≤ R.length ∧ i = .int .i64 k ∧ Lead wr base (.slice a R.length cap) R ∧ Sl wr w.heap.size (.slice (some ⟨w.heap.size, 0, none⟩) R.length R.length) (R.take k ++ List.replicate (R.length - k) 0) ∧ Hid (w.grownBy wr (Value.slice a R.length cap).ownBlock)) (fun i _ => R.length - (intOf i).toNat)
  case atStart => exact ⟨0, Nat.zero_le _, rfl, L1.out, by simpa using HS1.out, HGR0⟩
  case round =>
    obtain ⟨k, hk, rfl, hlead, hs, hgr⟩ := hrel
    by_cases hlt : k < R.length
    · obtain ⟨l, hl1, hl2, hl3⟩ := hlead
      have hll : l.length = R.length := by rw [← hl3, Rts_len]
      have hgd : (R.getD k 0) = (rt l k : Int) := by rw [← hl3, Rts_getD (by rw [hll]; exact hlt)]
      have HGD := Lib.hid hgd; have HL2 := Lib.hid hl2; have HL3 := Lib.hid hl3; have HL1 := Lib.hid hl1; have HLL := Lib.hid hll
      clear hgd hl2 hl3 hl1 hll
      go_wp2_with fail
      refine (leader_any _ base _ l k HL1.out HL2.out (by rw [HLL.out]; exact hlt)).mono ?_
      rintro e w2 ⟨l2, rfl, hs2, hI2, hl2, hr2, hg2⟩
      rw [← HGD.out]
      have hlead2 : Lead w2 base (.slice a R.length cap) R := ⟨l2, hs2, hI2, (Rts_same hl2 hr2).trans HL3.out⟩
      have hlab := sl_kept hs hg2 (apart_ne HAP.out.symm)
      have hgr2 := grown_trans hgr.out hg2
      clear hs hs2 hI2 hl2 hr2 hg2
      have c3 := sl_cell hlab (j := k) (by simp; omega)
      have c4 := sl_frozen hlab k
      have hset := sl_set hlab k (R.getD k 0)
      rw [lab_fill hlt] at hset
      have HLEAD : Hid (Lead (w2.setCell ⟨w.heap.size, k, none⟩ (.int .i64 (R.getD k 0))) base (.slice a R.length cap) R) := by
        obtain ⟨l3, h1, h2⟩ := hlead2
        exact ⟨l3, sl_kept h1 hset.2 (apart_ne (u := .slice (some ⟨w.heap.size, 0, none⟩) R.length R.length) HAP.out), h2⟩
      have HG3 : Hid (w.grownBy (w2.setCell ⟨w.heap.size, k, none⟩ (.int .i64 (R.getD k 0))) (Value.slice a R.length cap).ownBlock) := by
        refine ⟨hgr2.os, hgr2.tape, hgr2.output, by simpa using hgr2.size, fun i hi hne => ?_⟩
        rw [Below.heap_setCell _ _ _ _ (by simp; omega)]
        exact hgr2.block i hi hne
      have HSET := Lib.hid hset; clear hset hlab hlead2 hgr2
      generalize (R.take k ++ List.replicate (R.length - k) 0).getD k 0 = z at c3
      generalize R.getD k 0 = x at HSET HLEAD HG3
      go_wp2
      go_roundw
      case rel => exact ⟨k + 1, by omega, by go_num, HLEAD.out, HSET.out.1, HG3⟩
      case measure => simp [intOf]; omega
    · obtain rfl : k = R.length := by omega
      have hs' : Sl wr w.heap.size (.slice (some ⟨w.heap.size, 0, none⟩) R.length R.length) R := by simpa using hs
      clear hs
      go_wp2_with fail
      refine (partBy_any _ _ _ hs'.rd HWF.out).mono ?_; rintro e w3 ⟨y, rfl, hs3, hb3⟩
      go_wp2
      go_ret
      have hsz := hgr.out.size
      refine ⟨_, rfl, hs3.mono hsz, fun B hB hbb => ?_, grown_trans hgr.out ⟨hb3.os, hb3.tape, hb3.output, hb3.size, fun i hi _ => hb3.block i hi⟩⟩
      have hB2 : Below B.heap.size B wr := hB.grown hgr.out hB.size fun k hk => Nat.le_trans hbb (HLT.out k hk).1
      exact hB2.trans (hb3.mono hB2.size)
section
variable {w0 : World} {is : List Itm} {Q : Exit → Act → World → Prop} {o : Oper} {N : Frm} {e : Env} {v : Value} {d : Nat} {K : Act → World → Prop} {f : FuncId} {fn : Func} {ags : Array Operand} {ts : Array TypeId}
theorem go_classesG {R : List Int} {n : Nat} (hd : o.dst = some d) (hN : Nat.blt d N = true) (hop : o.op = .call { callee := .value (.func f), args := ags, argTypes := ts }) (hfn : Tryz.prog.funcs[f]? = some fn) (hb : fn.body.isNone = false) (hn : (fn.name == "runtime.NumGoroutine") = false)
    (hargs : evoL e ags.toList = some [v]) (hf : f = 140) (hi : is[n]? = some (leadI v R))
    (hk : ∀ a cap, GK w0 (is.set n (own1I (.slice a (clsOf R).length cap) (clsOf R))) N K ((d, .slice a (clsOf R).length cap) :: e)) : GO w0 is N o e Q K := by
  subst hf
  intro w a M F
  obtain ⟨S, hS, ⟨l, hl, hl2, hl3⟩, hset⟩ := mem_set M hi
  refine go_call hd hN F hop hfn hb hn hargs (classesG_any w 0 v R ⟨l, hl.1, hl2, hl3⟩) fun e' w' hR => ?_
  obtain ⟨y, rfl, hs, _, hg⟩ := hR
  obtain ⟨va, vc, rfl, _⟩ := sl_form hs
  exact ⟨_, rfl, fun a F => hk va vc w' a (hset w' _ (frS_grown hg hl.2) ((own1_loc _ _).keep (fun k _ hk => .inr hk) agree_refl (own1_of hs))) F⟩
end
def endsA (es : List (Ent (Int × Int))) : List (List Int) := es.map fun e => [e.1, e.2.1]
theorem endsA_snoc (es : List (Ent (Int × Int))) (e : Ent (Int × Int)) : endsA es ++ [[e.1, e.2.1]] = endsA (es ++ [e]) := by unfold endsA; rw [List.map_append]; rfl
theorem endsA_pair {F G : Fct} {os : List (Ent Int)} {es : List (Ent (Int × Int))} (h : ∀ e ∈ es, e ∈ arL F G os) : ∀ r ∈ endsA es, PairP os.length r := fun r hr => by
  obtain ⟨e, he, rfl⟩ := List.mem_map.1 hr
  have := arL_mem.1 (h e he)
  exact ⟨rfl, allP_two.2 ⟨this.1, this.2.1⟩⟩
def connP (n : Nat) (ps : List (List Int)) : Prop := 0 < n ∧ ∀ i : Nat, i < n → at0 (clsOf (specL n ps)) (i : Int) = 0
theorem nC_one {p : List Int} (hp : p = clsOf p) : nC p p.length = 1 ↔ 0 < p.length ∧ ∀ i : Nat, i < p.length → at0 p (i : Int) = 0 := by
  constructor
  · intro h
    have h0 : 0 < p.length := Nat.pos_of_ne_zero fun hz => by have := nC_le p p.length; omega
    refine ⟨h0, fun i hi => ?_⟩
    have := cls_rng hp hi
    rw [h] at this; omega
  · rintro ⟨h0, hz⟩
    have key : ∀ k : Nat, 0 < k → k ≤ p.length → nC p k = 1 := by
      intro k
      induction k with
      | zero => intro h; exact absurd h (by omega)
      | succ k ih =>
        intro _ hk
        have hpk : p.getD k 0 = 0 := by have := hz k (by omega); rwa [at0_nat] at this
        rcases Nat.eq_zero_or_pos k with rfl | hk0
        · have h1 : nC p 0 = 0 := by have := nC_le p 0; omega
          have := (nC_t hp (k := 0) (by omega) (by rw [hpk, h1]; rfl)).1
          rw [this, h1]
        · have h1 := ih hk0 (by omega)
          rw [nC_f hp (k := k) (by omega) (by rw [hpk, h1]; decide), h1]
    exact key _ h0 (Nat.le_refl _)
theorem conn_iff {n : Nat} {ps : List (List Int)} (hps : ∀ r ∈ ps, PairP n r) (hp : clsOf (implL n ps) = clsOf (clsOf (implL n ps))) : (nC (clsOf (implL n ps)) (clsOf (implL n ps)).length = 1) ↔ connP n ps := by
  rw [nC_one hp, ← join_cls hps, clsOf_len, specL_len]; exact Iff.rfl
theorem conn_dec {n : Nat} {ps : List (List Int)} (hps : ∀ r ∈ ps, PairP n r) : decide (((lstL (clsOf (implL n ps)) (nC (clsOf (implL n ps)) (clsOf (implL n ps)).length)).length : Int) = 1) = bP (connP n ps) := by
  rw [← bP_dec]
  refine bP_congr ?_
  rw [lstL_len, ← conn_iff hps (cls_ker (ker_cls2 _))]; omega
theorem implA_next (n : Nat) (es : List (Ent (Int × Int))) (a b u v : Int) : mergeR (implL n (endsA es)) ((implL n (endsA es)).getD a.toNat 0) ((implL n (endsA es)).getD b.toNat 0) = implL n (endsA (es ++ [(a, b, u, v)])) := by
  rw [← endsA_snoc, implL_snoc]; rfl
section
variable {w0 : World} {is : List Itm} {Q : Exit → Act → World → Prop} {N : Frm} {e : Env}
theorem gc_addNil {c : Code} (hk : GC w0 (is ++ [nilI]) N c Q e) : GC w0 is N c Q e := fun w a M F => hk w a (mem_new M (Below.refl _ _) trivial) F
end
theorem oneC_cat : fIsCategory oneC = true := by
  refine bP_t ⟨oneC_shape, fun f hf => ?_, fun f g k hf hg hk => ?_⟩
  · rw [oneC_s] at hf
    obtain rfl : f = 0 := by omega
    exact ⟨rfl, rfl⟩
  · rw [oneC_s] at hf hg hk
    obtain rfl : f = 0 := by omega
    obtain rfl : g = 0 := by omega
    obtain rfl : k = 0 := by omega
    rintro ⟨_, _, h⟩; exact h rfl
theorem pnt_fct {c : Cat} {x : Int} (hc : fIsCategory c = true) (h0 : 0 ≤ x) (h1 : x < c.ob) : IsFct (pntF c x) := by
  have hC := isCat_of hc
  have hi := ShapeP.idn hC.toShapeP h0 h1
  refine ⟨oneC_cat, hc, rfl, rfl, fun z hz => ?_, fun z hz => ?_, fun f hf => ?_, fun y hy => ?_, fun f g hf hg _ => ?_⟩
  · rcases List.mem_singleton.1 hz with rfl; exact ⟨h0, h1⟩
  · rcases List.mem_singleton.1 hz with rfl; exact ⟨hi.1, hi.2.1⟩
  · have hf : f < oneC.s.length := hf
    rw [oneC_s] at hf
    obtain rfl : f = 0 := by omega
    exact ⟨hi.2.2.1, hi.2.2.2⟩
  · have hy : (y : Int) < oneC.ob := hy
    have : oneC.ob = 1 := rfl
    obtain rfl : y = 0 := by omega
    rfl
  · have hf : f < oneC.s.length := hf
    have hg : g < oneC.s.length := hg
    rw [oneC_s] at hf hg
    obtain rfl : f = 0 := by omega
    obtain rfl : g = 0 := by omega
    have := (cm_id hC hi.1 hi.2.1).1
    rw [hi.2.2.1] at this
    exact this.symm
theorem pnt_csp {F : Fct} (hF : IsFct F) {x : Int} (h0 : 0 ≤ x) (h1 : x < F.T.ob) : CspP (pntF F.T x) F := ⟨pnt_fct hF.ct h0 h1, hF, rfl⟩
def finC (F : Fct) (x : Int) : Prop := connP (obL (pntF F.T x) F).length (endsA (arL (pntF F.T x) F (obL (pntF F.T x) F)))
def finP (F : Fct) : Prop := ∀ x : Nat, (x : Int) < F.T.ob → finC F x
set_option maxHeartbeats 2000000 in
set_option maxRecDepth 100000 in
theorem appendSeq_any (w0 w : World) (H : Itm) (gf : Nat) (lb : List Value) (L : List (Ent Int)) (hl : L.length ≤ 2560) (hseq : SeqC w0 [H] gf lb (fun e : Ent Int => Value.agg #[.int .i64 e.1, .int .i64 e.2.1, .int .i64 e.2.2]) (fun _ : Ent Int => ([] : List Itm)) (fun x : Ent Int => x) L) (fn : Func) (hfn : Tryz.prog.funcs[gf]? = some fn) (hbd : fn.body.isNone = false) (hnm : (fn.name == "runtime.NumGoroutine") = false) (R : Itm) (M : Mem w0 w [H, R]) :
    Calls Tryz.prog 161 #[.slice none 0 0, .func (.func gf) #[] lb.toArray] w (fun e w' => ∃ s : Option Addr × Nat, e = .returned (.slice s.1 L.length s.2) ∧ Mem w0 w' [H, R, ownEI0 lab_co (.slice s.1 L.length s.2) L]) := by
  refine gc_enterK (nf := 13) (args := [_, _]) M Tryz.func161 rfl rfl (Nat.le_of_ble_eq_true rfl) (look_cons (k := 0) rfl (look_cons (k := 1) rfl (look_nil _))) ?_
  clear M
  refine gc_seqD fun K1 hK1 => ?_
  refine gc_region ?_
  refine g_op (.free rfl) fun K3 hK3 => ?_
  refine go_box rfl rfl rfl rfl rfl ?_
  intro B2
  refine hK3 _ _ ?_
  refine g_v (.free rfl) rfl rfl (qt_assign rfl rfl) ?_
  refine g_nil ?_
  refine gk_then (hK1 _ _ ?_)
  refine gc_seqD fun K4 hK4 => ?_
  refine gc_seqD fun K5 hK5 => ?_
  refine gc_nilE0 lab_co ?_
  try simp only [List.nil_append, List.cons_append, List.append_assoc, List.set_cons_succ, List.set_cons_zero]
  refine gc_toEnd 1 rfl ?_
  simp only [List.eraseIdx_cons_succ, List.eraseIdx_cons_zero, List.cons_append, List.nil_append]
  refine gc_region ?_
  refine g_v (.free rfl) rfl rfl (qt_move rfl rfl) ?_
  refine g_nil ?_
  refine gk_then (hK5 _ _ ?_)
  refine gc_block ?_
  try simp only [List.nil_append, List.cons_append, List.append_assoc, List.set_cons_succ, List.set_cons_zero]
  refine gc_rangeF (α := (Ent Int)) (σ := (Option Addr) × Nat × (List (Ent Int))) 3 rfl rfl hfn hbd hnm rfl hseq (fun s : (Option Addr) × Nat × (List (Ent Int)) => (fun (a : Option Addr) (q : Nat) (es : List (Ent Int)) => ([(1, bxI B2 59 [.slice a es.length q]), (2, ownEI0 lab_co (.slice a es.length q) es)] : List (Nat × Itm))) s.1 s.2.1 s.2.2) (fun (pre : List (Ent Int)) => (fun s : (Option Addr) × Nat × (List (Ent Int)) => (fun (a : Option Addr) (q : Nat) (es : List (Ent Int)) => es = pre) s.1 s.2.1 s.2.2)) (fun (c : Code) (pre : List (Ent Int)) => (fun s : (Option Addr) × Nat × (List (Ent Int)) => (fun (a : Option Addr) (q : Nat) (es : List (Ent Int)) => False) s.1 s.2.1 s.2.2)) (none, 0, []) rfl rfl rfl rfl ?_ ?_ ?_ ?_
  · rintro l6 r6 js6 pre ⟨ea, eb, ec⟩ ⟨a, q, es⟩ hinv hpre Ka6 Kb6 hKp6 hKa6 hKn6 hKr6 hKe6
    simp only [updL, List.foldl_cons, List.foldl_nil, List.take_succ_cons, List.take_zero, List.drop_succ_cons, List.drop_zero, List.set_cons_succ, List.set_cons_zero, List.cons_append, List.nil_append] at hinv hKn6 hKr6 hKe6 ⊢
    obtain rfl := hinv
    have hpl := hpre.length_le
    simp at hpl
    refine gc_region ?_
    refine g_op (.free rfl) fun K8 hK8 => ?_
    refine go_alloc (z := (.agg #[.int .i64 0, .int .i64 0, .int .i64 0])) (cs := [.int .i64 0, .int .i64 0, .int .i64 0]) rfl rfl rfl (fun w => by kernel_rfl) rfl ?_
    intro B7
    refine hK8 _ _ ?_
    refine g_op (.free rfl) fun K9 hK9 => ?_
    refine go_storeS (n := 5) rfl rfl rfl rfl (by kernel_rfl) rfl rfl rfl ?_
    refine hK9 _ _ ?_
    refine g_nil ?_
    try simp only [List.nil_append, List.cons_append, List.append_assoc, List.set_cons_succ, List.set_cons_zero]
    refine gk_then (hKa6 _ _ ?_)
    refine gc_block ?_
    refine gc_region ?_
    refine g_v (.free rfl) rfl rfl (qt_loadB (n := 2) rfl rfl Tryz.underlying59 rfl rfl rfl) ?_
    refine g_v (.free rfl) rfl rfl (qt_loadS (n := 5) rfl rfl Tryz.underlying67 rfl (by kernel_rfl) rfl) ?_
    refine g_op (.free rfl) fun K11 hK11 => ?_
    refine go_sliceE10 lab_co rfl rfl rfl rfl rfl ?_
    intro B10
    refine hK11 _ _ ?_
    refine g_op (.free rfl) fun K13 hK13 => ?_
    refine go_appendE0 lab_co (n := 3) (m := 6) rfl rfl rfl rfl rfl rfl rfl rfl (show _ ≤ 4000000000000 by omega) ?_
    intro va12 vc12
    refine hK13 _ _ ?_
    refine g_op (.free rfl) fun K14 hK14 => ?_
    refine go_storeB (n := 2) rfl rfl rfl rfl (by kernel_rfl) rfl rfl rfl (by first | decide | simp) ?_
    refine hK14 _ _ ?_
    refine g_nil ?_
    refine gk_block ?_
    try simp only [List.nil_append, List.cons_append, List.append_assoc, List.set_cons_succ, List.set_cons_zero]
    refine gk_take 5 ?_
    refine hKn6 ((_, _, _)) _ ?hi_15
    case hi_15 => rfl
  · rintro D6 xs ⟨a, q, es⟩ hL hinv
    simp only [updL, List.foldl_cons, List.foldl_nil, List.take_succ_cons, List.take_zero, List.drop_succ_cons, List.drop_zero, List.set_cons_succ, List.set_cons_zero, List.cons_append, List.nil_append] at *
    obtain rfl := hinv
    rw [cm_mapid] at hL
    subst hL
    refine gk_block ?_
    refine gk_then (hK4 _ _ ?_)
    refine gc_seqD fun K16 hK16 => ?_
    refine gc_region ?_
    refine g_v (.free rfl) rfl rfl (qt_loadB (n := 2) rfl rfl Tryz.underlying59 rfl rfl rfl) ?_
    refine g_v (.free rfl) rfl rfl (qt_assign rfl rfl) ?_
    refine g_nil ?_
    refine gk_then (hK16 _ _ ?_)
    refine gc_ret ?_
    try simp only [List.nil_append, List.cons_append, List.append_assoc, List.set_cons_succ, List.set_cons_zero]
    refine gk_marks (n := 0) rfl rfl ?_
    simp only [List.set_cons_zero, List.set_cons_succ]
    refine ret_1 rfl rfl  (fun w M => ?_)
    exact ⟨(_, _), rfl, mem_take 3 (mem_pick (n := 4) (mem_pick (n := 2) (mem_pick (n := 3) (M) rfl) rfl) rfl)⟩
  · rintro D6 pre ⟨a, q, es⟩ hL hinv; exact absurd hinv (by simp)
  · rintro D6 id pre ⟨a, q, es⟩ hL hinv; exact absurd hinv (by simp)
set_option maxHeartbeats 2000000 in
set_option maxRecDepth 100000 in
theorem collect_any (w0 w : World) (H : Itm) (gf : Nat) (lb : List Value) (L : List (Ent Int)) (hl : L.length ≤ 2560) (hseq : SeqC w0 [H] gf lb (fun e : Ent Int => Value.agg #[.int .i64 e.1, .int .i64 e.2.1, .int .i64 e.2.2]) (fun _ : Ent Int => ([] : List Itm)) (fun x : Ent Int => x) L) (fn : Func) (hfn : Tryz.prog.funcs[gf]? = some fn) (hbd : fn.body.isNone = false) (hnm : (fn.name == "runtime.NumGoroutine") = false) (R : Itm) (M : Mem w0 w [H, R]) :
    Calls Tryz.prog 137 #[.func (.func gf) #[] lb.toArray] w (fun e w' => ∃ s : Option Addr × Nat, e = .returned (.slice s.1 L.length s.2) ∧ Mem w0 w' [H, R, ownEI0 lab_co (.slice s.1 L.length s.2) L]) := by
  go_enter Tryz.func137, Tryz.ntmps137
  refine gc_enterM M (N := 5) rfl (look_cons (k := 0) rfl (look_nil _)) ?_
  clear M
  refine gc_seq fun K1 hK1 => ?_
  refine gc_region ?_
  refine g_v (.free rfl) rfl rfl (qt_assign rfl rfl) ?_
  refine g_nil ?_
  refine gk_then (hK1 _ _ ?_)
  refine gc_seq fun K2 hK2 => ?_
  refine gc_region ?_
  refine g_v (.free rfl) rfl rfl (qt_move rfl rfl) ?_
  refine g_op (.free rfl) fun K4 hK4 => ?_
  refine go_callIt (σ := Option Addr × Nat) (V := fun s => .slice s.1 L.length s.2) (New := fun s => [ownEI0 lab_co (.slice s.1 L.length s.2) L]) (B := [_]) [0] rfl rfl rfl Tryz.func161 rfl (by decide) rfl rfl (fun R w M => appendSeq_any _ w _ _ _ L hl (seqC_pack hseq) _ hfn hbd hnm R M) ?_
  intro so
  refine hK4 _ _ ?_
  refine g_v (.free rfl) rfl rfl (qt_assign rfl rfl) ?_
  refine g_nil ?_
  refine gk_then (hK2 _ _ ?_)
  refine gc_ret ?_
  refine ret_1 rfl rfl  (fun w M => ?_)
  exact ⟨_, rfl, M⟩
set_option maxHeartbeats 8000000 in
set_option maxRecDepth 100000 in
theorem isConn_any (w : World) {x1 x2 x3 x4 x5 x6 x7 x8 x9 x10 y1 y2 y3 y4 y5 y6 y7 y8 y9 y10 : Option Addr} {k1 k2 k3 k4 k5 k6 k7 k8 k9 k10 l1 l2 l3 l4 l5 l6 l7 l8 l9 l10 : Nat} (F G : Fct) (hC : CspR w F G x1 x2 x3 x4 x5 x6 x7 x8 x9 x10 y1 y2 y3 y4 y5 y6 y7 y8 y9 y10 k1 k2 k3 k4 k5 k6 k7 k8 k9 k10 l1 l2 l3 l4 l5 l6 l7 l8 l9 l10) (hP : CspP F G) :
    Calls Tryz.prog 107 #[.agg #[.int .i64 F.S.ob, .slice x1 F.S.s.length k1, .slice x2 F.S.t.length k2, .slice x3 F.S.e.length k3, .slice x4 F.S.m.length k4, .int .i64 F.T.ob, .slice x5 F.T.s.length k5, .slice x6 F.T.t.length k6, .slice x7 F.T.e.length k7, .slice x8 F.T.m.length k8, .slice x9 F.o.length k9, .slice x10 F.a.length k10, .int .i64 G.S.ob, .slice y1 G.S.s.length l1, .slice y2 G.S.t.length l2, .slice y3 G.S.e.length l3, .slice y4 G.S.m.length l4, .int .i64 G.T.ob, .slice y5 G.T.s.length l5, .slice y6 G.T.t.length l6, .slice y7 G.T.e.length l7, .slice y8 G.T.m.length l8, .slice y9 G.o.length l9, .slice y10 G.a.length l10]] w (RetB w (bP (connP (obL F G).length (endsA (arL F G (obL F G)))))) := by
  have fS := (isCat_of hP.f.cs).toShapeP; have fT := (isCat_of hP.f.ct).toShapeP; have gS := (isCat_of hP.g.cs).toShapeP
  have fo := hP.f.lo; have fa := hP.f.la; have go := hP.g.lo; have ga := hP.g.la
  have s8 := fS.ob8; have s0 := fS.ob0; have g8 := gS.ob8; have g0 := gS.ob0; have n1 := fS.n40; have n2 := gS.n40; have n3 := fT.n40
  have hoL := obL_len (F := F) (G := G) (by omega) (by omega) n3
  have hos : ∀ k : Nat, k < (obL F G).length → 0 ≤ (atE (obL F G) (k : Int)).2.2 ∧ (atE (obL F G) (k : Int)).2.2 < F.T.s.length := fun k hk => (obP_at (x := (k : Int)) (by omega) (by omega)).2.2.1
  refine gc_enterK (nf := 29) (args := [_]) (mem_nil w) Tryz.func107 rfl rfl (Nat.le_of_ble_eq_true rfl) (look_cons (k := 0) rfl (look_nil _)) ?_
  refine gc_seqD fun K1 hK1 => ?_
  refine gc_region ?_
  refine g_op (.free rfl) fun K3 hK3 => ?_
  refine go_box rfl rfl rfl rfl rfl ?_
  intro B2
  refine hK3 _ _ ?_
  refine g_v (.free rfl) rfl rfl (qt_assign rfl rfl) ?_
  refine g_nil ?_
  refine gk_then (hK1 _ _ ?_)
  refine gc_seqD fun K4 hK4 => ?_
  refine gc_addNil ?_
  refine gc_region ?_
  refine g_v (.free rfl) rfl rfl (qt_loadS (n := 1) rfl rfl Tryz.underlying58 rfl (by kernel_rfl) rfl) ?_
  refine g_op (.free rfl) fun K6 hK6 => ?_
  refine go_callCl1 rfl rfl rfl Tryz.func82 rfl (by decide) rfl (fun w M => allObj_any w F G (csp_below M.1 hC)) ?_
  intro B5
  refine hK6 _ _ ?_
  refine g_op (.free rfl) fun K8 hK8 => ?_
  refine go_callIt (σ := Option Addr × Nat) (V := fun s => .slice s.1 (obL F G).length s.2) (New := fun s => [ownEI0 lab_co (.slice s.1 (obL F G).length s.2) (obL F G)]) (B := [_, _]) [3, 2] rfl rfl rfl Tryz.func137 rfl (by decide) rfl rfl (fun R w M => collect_any _ w _ _ [_] (obL F G) hoL (seqC_pack (allOb_seq (hold_fact hC) hP)) _ Tryz.func115 rfl (by decide) R M) ?_
  intro so
  refine hK8 _ _ ?_
  refine g_v (.free rfl) rfl rfl (qt_assign rfl rfl) ?_
  refine g_nil ?_
  refine gk_then (hK4 _ _ ?_)
  refine gc_seqD fun K9 hK9 => ?_
  refine gc_region ?_
  refine g_v (.free rfl) rfl rfl (qt_move rfl rfl) ?_
  refine g_v (.free rfl) rfl rfl (qt_len rfl rfl (lab_ul0 lab_co) (fun w M => lenV_E0 (mem_ownE0 (n := 4) M rfl))) ?_
  refine g_op (.free rfl) fun K11 hK11 => ?_
  refine go_newLeaders rfl rfl rfl Tryz.func138 rfl (by decide) rfl (by omega) (by omega) rfl ?_
  intro B10
  refine hK11 _ _ ?_
  refine g_op (.free rfl) fun K13 hK13 => ?_
  refine go_alloc (z := (.slice none 0 0)) (cs := [.slice none 0 0]) rfl rfl rfl (fun w => by kernel_rfl) rfl ?_
  intro B12
  refine hK13 _ _ ?_
  refine g_op (.free rfl) fun K14 hK14 => ?_
  refine go_storeB (n := 6) rfl rfl rfl rfl (by kernel_rfl) rfl rfl rfl (by first | decide | simp) ?_
  refine hK14 _ _ ?_
  refine g_nil ?_
  refine gk_then (hK9 _ _ ?_)
  refine gc_seqD fun K15 hK15 => ?_
  refine gc_seqD fun K16 hK16 => ?_
  simp only [Int.toNat_natCast]
  refine gc_region ?_
  refine g_v (.free rfl) rfl rfl (qt_loadS (n := 1) rfl rfl Tryz.underlying58 rfl (by kernel_rfl) rfl) ?_
  refine g_v (.free rfl) rfl rfl (qt_move rfl rfl) ?_
  refine g_op (.free rfl) fun K18 hK18 => ?_
  refine go_callCl2 rfl rfl rfl Tryz.func84 rfl (by decide) rfl (fun w M => arrAm_any w F G (csp_below M.1 hC) _ _ _) ?_
  intro B17 D17
  refine hK18 _ _ ?_
  refine g_nil ?_
  refine gk_then (hK16 _ _ ?_)
  refine gc_block ?_
  try simp only [List.nil_append, List.cons_append, List.append_assoc, List.set_cons_succ, List.set_cons_zero]
  refine gc_toEnd 2 rfl ?_
  simp only [List.eraseIdx_cons_succ, List.eraseIdx_cons_zero, List.cons_append, List.nil_append]
  try simp only [List.nil_append, List.cons_append, List.append_assoc, List.set_cons_succ, List.set_cons_zero]
  refine gc_toEnd 3 rfl ?_
  simp only [List.eraseIdx_cons_succ, List.eraseIdx_cons_zero, List.cons_append, List.nil_append]
  try simp only [List.nil_append, List.cons_append, List.append_assoc, List.set_cons_succ, List.set_cons_zero]
  refine gc_rangeF (α := (Ent (Int × Int))) (σ := (List (Ent (Int × Int)))) 4 rfl rfl Tryz.func117 rfl (by decide) rfl (arrows_seq (hold_fact hC) hP hoL hos) (fun s : (List (Ent (Int × Int))) => (fun (es : List (Ent (Int × Int))) => ([(2, leadI (.slice (some ⟨B10, 0, none⟩) (obL F G).length (obL F G).length) (implL (obL F G).length (endsA es)))] : List (Nat × Itm))) s) (fun (pre : List (Ent (Int × Int))) => (fun s : (List (Ent (Int × Int))) => (fun (es : List (Ent (Int × Int))) => es = pre) s)) (fun (c : Code) (pre : List (Ent (Int × Int))) => (fun s : (List (Ent (Int × Int))) => (fun (es : List (Ent (Int × Int))) => False) s)) [] rfl rfl rfl rfl ?_ ?_ ?_ ?_
  · rintro l19 r19 js19 pre ⟨ea, eb, ec, ed⟩ es hinv hpre Ka19 Kb19 hKp19 hKa19 hKn19 hKr19 hKe19
    simp only [updL, List.foldl_cons, List.foldl_nil, List.take_succ_cons, List.take_zero, List.drop_succ_cons, List.drop_zero, List.set_cons_succ, List.set_cons_zero, List.cons_append, List.nil_append] at hinv hKn19 hKr19 hKe19 ⊢
    obtain rfl := hinv
    rw [cm_mapid] at hpre
    have hmem : (ea, eb, ec, ed) ∈ arL F G (obL F G) := hpre.subset (by simp)
    have hrg := arL_mem.1 hmem
    have hr1 : 0 ≤ ea ∧ ea < (obL F G).length := hrg.1
    have hr2 : 0 ≤ eb ∧ eb < (obL F G).length := hrg.2.1
    have hil : ((implL (obL F G).length (endsA es)).length : Int) = (obL F G).length := by rw [implL_len]
    refine gc_region ?_
    refine g_op (.free rfl) fun K21 hK21 => ?_
    refine go_alloc (z := (.agg #[.int .i64 0, .int .i64 0, .int .i64 0, .int .i64 0])) (cs := [.int .i64 0, .int .i64 0, .int .i64 0, .int .i64 0]) rfl rfl rfl (fun w => by kernel_rfl) rfl ?_
    intro B20
    refine hK21 _ _ ?_
    refine g_op (.free rfl) fun K22 hK22 => ?_
    refine go_storeS (n := 6) rfl rfl rfl rfl (by kernel_rfl) rfl rfl rfl ?_
    refine hK22 _ _ ?_
    refine g_nil ?_
    try simp only [List.nil_append, List.cons_append, List.append_assoc, List.set_cons_succ, List.set_cons_zero]
    refine gk_then (hKa19 _ _ ?_)
    refine gc_block ?_
    refine gc_region ?_
    refine g_v (.free rfl) rfl rfl (qt_loadB (n := 4) rfl rfl Tryz.underlying162 rfl rfl rfl) ?_
    refine g_v (.free rfl) rfl rfl (qt_field (z := 1) (off := 0) rfl rfl Tryz.underlying74 rfl (by kernel_rfl) rfl) ?_
    refine g_v (.free rfl) rfl rfl (qt_field (z := 0) (off := 0) rfl rfl Tryz.underlying72 rfl (by kernel_rfl) rfl) ?_
    refine g_v (.free rfl) rfl rfl (qt_loadB (n := 6) rfl rfl Tryz.underlying2 rfl rfl rfl) ?_
    refine g_v (.free rfl) rfl rfl (qt_field (z := 1) (off := 0) rfl rfl Tryz.underlying74 rfl (by kernel_rfl) rfl) ?_
    refine g_v (.free rfl) rfl rfl (qt_field (z := 0) (off := 1) rfl rfl Tryz.underlying72 rfl (by kernel_rfl) rfl) ?_
    refine g_v (.free rfl) rfl rfl (qt_loadB (n := 6) rfl rfl Tryz.underlying2 rfl rfl rfl) ?_
    refine g_op (.free rfl) fun K24 hK24 => ?_
    refine go_join (n := 3) rfl rfl rfl Tryz.func139 rfl (by decide) rfl rfl rfl (by omega) (by omega) (by omega) (by omega) ?_
    refine hK24 _ _ ?_
    refine g_nil ?_
    refine gk_block ?_
    rw [implA_next _ _ ea eb ec ed]
    try simp only [List.nil_append, List.cons_append, List.append_assoc, List.set_cons_succ, List.set_cons_zero]
    refine gk_take 6 ?_
    refine hKn19 (es ++ [(ea, eb, ec, ed)]) _ ?hi_25
    case hi_25 => rfl
  · rintro D19 xs es hL hinv
    simp only [updL, List.foldl_cons, List.foldl_nil, List.take_succ_cons, List.take_zero, List.drop_succ_cons, List.drop_zero, List.set_cons_succ, List.set_cons_zero, List.cons_append, List.nil_append] at *
    obtain rfl := hinv
    rw [cm_mapid] at hL
    subst hL
    refine gk_block ?_
    refine gk_then (hK15 _ _ ?_)
    refine gc_seqD fun K26 hK26 => ?_
    refine gc_region ?_
    refine g_v (.free rfl) rfl rfl (qt_loadB (n := 4) rfl rfl Tryz.underlying162 rfl rfl rfl) ?_
    refine g_op (.free rfl) fun K28 hK28 => ?_
    refine go_classesG (n := 3) rfl rfl rfl Tryz.func140 rfl (by decide) rfl rfl rfl ?_
    intro va27 vc27
    refine hK28 _ _ ?_
    refine g_op (.free rfl) fun K30 hK30 => ?_
    refine go_callL rfl rfl rfl Tryz.func141 rfl (by decide) rfl (fun w M => leastsP_any w _ _ ((mem_own1 (n := 3) M rfl).rd) (cls_ker (ker_cls2 _))) ?_
    intro va29 vc29
    refine hK30 _ _ ?_
    refine g_v (.free rfl) rfl rfl (qt_len rfl rfl ulE1 (fun w M => lenV_own1 (n := 9) rfl M)) ?_
    refine g_v (.free rfl) rfl rfl (qt_eql rfl rfl rfl) ?_
    refine g_v (.free rfl) rfl rfl (qt_assign rfl rfl) ?_
    refine g_nil ?_
    refine gk_then (hK26 _ _ ?_)
    refine gc_ret ?_
    try simp only [List.nil_append, List.cons_append, List.append_assoc, List.set_cons_succ, List.set_cons_zero]
    refine gk_marks (n := 0) rfl rfl ?_
    simp only [List.set_cons_zero, List.set_cons_succ]
    refine ret_1 rfl rfl  (fun w M => ?_)
    rw [← conn_dec (endsA_pair fun e he => he)]; exact ⟨rfl, M.1⟩
  · rintro D19 pre es hL hinv; exact absurd hinv (by simp)
  · rintro D19 id pre es hL hinv; exact absurd hinv (by simp)
end Go.Proofs.YtpcabkdkdnchaaaGreat
