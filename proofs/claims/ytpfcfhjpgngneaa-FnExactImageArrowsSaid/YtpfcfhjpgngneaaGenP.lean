
/- The least subcategory: the program's. -/
import Derived.Test.YtpfcfhjpgngneaaGenF
import Derived.Test.YtpfcfhjpgngneaaClo
import Derived.Test.YtpfcfhjpgngneaaClo2
import Derived.Test.YtpfcfhjpgngneaaLib3
import Derived.Test.YtpfcfhjpgngneaaFirst
set_option linter.unusedSimpArgs false
set_option linter.unusedVariables false
set_option linter.unusedSectionVars false
namespace Go.Proofs.Ytpfcfhjpgngneaa
open Go.RowKit


section
variable {w0 : World} {is : List Itm} {ops : Array Oper} {Q : Exit → Act → World → Prop} {o : Oper} {N n : Nat} {e : Env} {v : Value} {d : Nat} {K : Act → World → Prop} {f : FuncId} {fn : Func} {ags : Array Operand} {ts : Array TypeId} {vs : List Value}
theorem go_sort {xs : List Int} (hd : o.dst = some d) (hN : Nat.blt d N = true) (hop : o.op = .call { callee := .value (.func f), args := ags, argTypes := ts }) (hfn : Try.prog.funcs[f]? = some fn) (hb : fn.body.isNone = false) (hnm : (fn.name == "runtime.NumGoroutine") = false)
    (hargs : evoL e ags.toList = some [v]) (hf : f = 160) (hi : is[n]? = some (own1I v xs)) (hk : GK w0 (is.set n (own1I v (xs.mergeSort fun x y => decide (x ≤ y)))) N K ((d, .tuple #[]) :: e)) : GO w0 is N o e Q K := by
  subst hf
  intro w a M F
  obtain ⟨S, hS, h1, hset⟩ := mem_set M hi
  refine go_call hd hN F hop hfn hb hnm hargs (sort_any w 0 v xs h1.1) fun e' w' hR => ?_
  obtain ⟨rfl, hs, hg⟩ := hR
  exact ⟨_, rfl, fun a F => hk w' a (hset w' (own1I v _) (frS_grown hg h1.2) ⟨hs, fun q hq => .inl (h1.2 q hq)⟩) F⟩
end
theorem addB_len (bs : List Bool) (f : Int) : (addB bs f).length = bs.length := by unfold addB; split <;> simp
theorem addF_len (bs : List Bool) (fs : List Int) (f : Int) : (addF bs fs f).length ≤ fs.length + 1 := by unfold addF; split <;> simp

set_option maxHeartbeats 1000000 in
set_option maxRecDepth 100000 in
theorem genAdd_any (w0 w : World) (j0 : Itm) (F : List Itm) (B1 B2 B3 n q : Nat) (a : Option Addr) (bs : List Bool) (fs : List Int) (f : Int) (hf : f = -1 ∨ (0 ≤ f ∧ f < bs.length)) (hbl : bs.length = n) (hfl : fs.length ≤ 1000) (M : Mem w0 w [j0, bxI B2 22 [.slice a fs.length q], ownBI (.slice (some ⟨B3, 0, none⟩) n n) bs, bxI B1 116 [.slice (some ⟨B3, 0, none⟩) n n], own1I (.slice a fs.length q) fs, tailI F]) :
    Calls Try.prog 158 #[.int .i64 f, .pointer (some ⟨B1, 0, none⟩), .pointer (some ⟨B2, 0, none⟩)] w (fun e w' => e = .returned (.tuple #[]) ∧ ∃ (a' : Option Addr) (q' : Nat), Mem w0 w' [j0, bxI B2 22 [.slice a' (addF bs fs f).length q'], ownBI (.slice (some ⟨B3, 0, none⟩) n n) (addB bs f), bxI B1 116 [.slice (some ⟨B3, 0, none⟩) n n], own1I (.slice a' (addF bs fs f).length q') (addF bs fs f), tailI F]) := by
  go_enter Try.func158, Try.ntmps158
  refine gc_enterM M (N := 20) rfl (look_cons (k := 0) rfl (look_cons (k := 1) rfl (look_cons (k := 2) rfl (look_nil _)))) ?_
  clear M
  refine gc_seq fun K1 hK1 => ?_
  refine gc_region ?_
  refine g_v (.free rfl) rfl rfl (qt_move rfl rfl) ?_
  refine g_v (.free rfl) rfl rfl (qt_neq rfl rfl rfl) ?_
  refine g_splitv (.free rfl) rfl rfl (qt_move rfl rfl) (fun hs0_2 => ?_) (fun hs0_2 => ?_)
  · try simp only [decide_eq_true_eq, decide_eq_false_iff_not, Bool.not_eq_true', Bool.not_eq_false', Bool.not_eq_eq_eq_not, Bool.not_true, Bool.not_false, ne_eq, Decidable.not_not, Classical.not_not] at hs0_2
    refine g_v (.held _ _ _ rfl rfl rfl) rfl rfl (qt_loadB (n := 3) rfl rfl Try.underlying116 rfl rfl rfl) ?_
    refine g_v (.held _ _ _ rfl rfl rfl) rfl rfl (qt_move rfl rfl) ?_
    refine g_v (.held _ _ _ rfl rfl rfl) rfl rfl (qt_index rfl rfl rfl ulEB szEB (fun w M => lenA_B (n := 2) rfl M) (by omega) (by omega)) ?_
    refine g_v (.held _ _ _ rfl rfl rfl) rfl rfl (qt_loadBool (n := 2) rfl rfl Try.underlying4 rfl rfl (by omega) (by omega)) ?_
    refine g_v (.held _ _ _ rfl rfl rfl) rfl rfl (qt_not rfl rfl) ?_
    refine g_v (.free rfl) rfl rfl (qt_pick_t rfl rfl rfl) ?_
    refine g_nil ?_
    refine gk_then (hK1 _ _ ?_)
    refine gc_cond rfl (fun hc0 => ?_) (fun hc0 => ?_)
    · try simp only [decide_eq_true_eq, decide_eq_false_iff_not, Bool.not_eq_true', Bool.not_eq_false', Bool.not_eq_eq_eq_not, Bool.not_true, Bool.not_false, ne_eq, Decidable.not_not, Classical.not_not] at hc0
      refine gc_seq fun K2 hK2 => ?_
      refine gc_region ?_
      refine g_v (.free rfl) rfl rfl (qt_loadB (n := 3) rfl rfl Try.underlying116 rfl rfl rfl) ?_
      refine g_v (.free rfl) rfl rfl (qt_move rfl rfl) ?_
      refine g_v (.free rfl) rfl rfl (qt_index rfl rfl rfl ulEB szEB (fun w M => lenA_B (n := 2) rfl M) (by omega) (by omega)) ?_
      refine g_op (.free rfl) fun K3 hK3 => ?_
      refine go_storeBool (n := 2) rfl rfl rfl rfl (by kernel_rfl) rfl (by omega) (by omega) ?_
      refine hK3 _ _ ?_
      refine g_nil ?_
      refine gk_then (hK2 _ _ ?_)
      refine gc_region ?_
      refine g_v (.free rfl) rfl rfl (qt_loadB (n := 1) rfl rfl Try.underlying22 rfl rfl rfl) ?_
      refine g_v (.free rfl) rfl rfl (qt_move rfl rfl) ?_
      refine g_op (.free rfl) fun K5 hK5 => ?_
      refine go_slice1 rfl rfl rfl rfl Try.underlying22 ?_
      intro B4
      refine hK5 _ _ ?_
      refine g_op (.free rfl) fun K7 hK7 => ?_
      refine go_append (n := 4) (m := 6) rfl rfl rfl Try.underlying22 rfl rfl rfl rfl (by omega) ?_
      intro va6 vc6
      refine hK7 _ _ ?_
      refine g_op (.free rfl) fun K8 hK8 => ?_
      refine go_storeB (n := 1) rfl rfl rfl rfl (by kernel_rfl) rfl rfl rfl (by first | decide | simp) ?_
      refine hK8 _ _ ?_
      refine g_nil ?_
      refine ret_0n rfl (fun w M => ?_)
      rw [addF_t hs0_2 hc0, addB_t hs0_2 hc0]; exact ⟨rfl, _, _, mem_take 6 M⟩
    · try simp only [decide_eq_true_eq, decide_eq_false_iff_not, Bool.not_eq_true', Bool.not_eq_false', Bool.not_eq_eq_eq_not, Bool.not_true, Bool.not_false, ne_eq, Decidable.not_not, Classical.not_not] at hc0
      refine gc_skip ?_
      refine ret_0n rfl (fun w M => ?_)
      rw [addF_f (.inr hc0), addB_f (.inr hc0)]; exact ⟨rfl, _, _, M⟩
  · try simp only [decide_eq_true_eq, decide_eq_false_iff_not, Bool.not_eq_true', Bool.not_eq_false', Bool.not_eq_eq_eq_not, Bool.not_true, Bool.not_false, ne_eq, Decidable.not_not, Classical.not_not] at hs0_2
    refine g_skip (.not _ _ _ _ rfl rfl rfl rfl) rfl rfl ?_
    refine g_skip (.not _ _ _ _ rfl rfl rfl rfl) rfl rfl ?_
    refine g_skip (.not _ _ _ _ rfl rfl rfl rfl) rfl rfl ?_
    refine g_skip (.not _ _ _ _ rfl rfl rfl rfl) rfl rfl ?_
    refine g_skip (.not _ _ _ _ rfl rfl rfl rfl) rfl rfl ?_
    refine g_v (.free rfl) rfl rfl (qt_pick_f rfl rfl rfl) ?_
    refine g_nil ?_
    refine gk_then (hK1 _ _ ?_)
    refine gc_cond_f rfl ?_
    refine gc_skip ?_
    refine ret_0n rfl (fun w M => ?_)
    rw [addF_f (.inl hs0_2), addB_f (.inl hs0_2)]; exact ⟨rfl, _, _, M⟩

set_option maxHeartbeats 1000000 in
set_option maxRecDepth 100000 in
theorem gen_any (w : World) (v u : Value) (c : Cat) (xs : List Int) (h : RdC w v c) (hS : ShapeP c) (hu : Rd w u xs) (hx : AllP c.s.length xs) :
    Calls Try.prog 133 #[v, u] w (RetL w (genL c xs c.s.length)) := by
  have h0 := h
  obtain ⟨va, vb, vc, vd, ve, vf, vg, vh, rfl, h1, h2, h3, h4, _⟩ := h.lists
  obtain ⟨ua, uc, rfl⟩ := rd_form hu
  have hn40 := hS.n40; have htl := hS.tl; have hel := hS.el; have hob0 := hS.ob0; have hob8 := hS.ob8; have hml := hS.ml
  have hxl : xs.length ≤ 17592186044415 := by obtain ⟨_, _, _, hl, _⟩ := hu; exact hl
  go_enter Try.func133, Try.ntmps133
  refine gc_enter (N := 76) rfl (look_cons (k := 0) rfl (look_cons (k := 1) rfl (look_nil _))) ?_
  refine gc_seq fun K1 hK1 => ?_
  refine gc_region ?_
  refine g_op (.free rfl) fun K3 hK3 => ?_
  refine go_box rfl rfl rfl rfl rfl ?_
  intro B2
  refine hK3 _ _ ?_
  refine g_v (.free rfl) rfl rfl (qt_assign rfl rfl) ?_
  refine g_nil ?_
  refine gk_then (hK1 _ _ ?_)
  refine gc_seq fun K4 hK4 => ?_
  refine gc_region ?_
  refine g_op (.free rfl) fun K6 hK6 => ?_
  refine go_alloc (z := (.slice none 0 0)) (cs := [.slice none 0 0]) rfl rfl rfl (fun w => by kernel_rfl) rfl ?_
  intro B5
  refine hK6 _ _ ?_
  refine g_nil ?_
  refine gk_then (hK4 _ _ ?_)
  refine gc_seq fun K7 hK7 => ?_
  refine gc_region ?_
  refine g_v (.free rfl) rfl rfl (qt_loadS (n := 0) rfl rfl Try.underlying30 rfl (by kernel_rfl) rfl) ?_
  refine g_q (.free rfl) rfl rfl (qt_call rfl Try.func65 rfl (by decide) rfl (fun w M => arrows_any w _ _ (mem_rdC M h0))) ?_
  refine g_op (.free rfl) fun K9 hK9 => ?_
  refine go_makeB rfl rfl rfl Try.underlying116 rfl rfl (by omega) ?_
  intro B8
  refine hK9 _ _ ?_
  refine g_op (.free rfl) fun K11 hK11 => ?_
  refine go_alloc (z := (.slice none 0 0)) (cs := [.slice none 0 0]) rfl rfl rfl (fun w => by kernel_rfl) rfl ?_
  intro B10
  refine hK11 _ _ ?_
  refine g_op (.free rfl) fun K12 hK12 => ?_
  refine go_storeB (n := 3) rfl rfl rfl rfl (by kernel_rfl) rfl rfl rfl (by first | decide | simp) ?_
  refine hK12 _ _ ?_
  refine g_nil ?_
  refine gk_then (hK7 _ _ ?_)
  refine gc_seq fun K13 hK13 => ?_
  refine gc_region ?_
  refine g_nilS ?_
  refine g_v (.free rfl) rfl rfl (qt_makeF rfl rfl) ?_
  refine g_v (.free rfl) rfl rfl (qt_assign rfl rfl) ?_
  refine g_nil ?_
  refine gk_then (hK13 _ _ ?_)
  refine gc_seq fun K14 hK14 => ?_
  refine gc_seq fun K15 hK15 => ?_
  refine gc_region ?_
  refine g_v (.free rfl) rfl rfl (qt_move rfl rfl) ?_
  refine g_v (.free rfl) rfl rfl (qt_len rfl rfl ulE1 (fun w M => lenV_rd hu)) ?_
  refine g_v (.free rfl) rfl rfl (qt_move rfl rfl) ?_
  refine g_nil ?_
  refine gk_then (hK15 _ _ ?_)
  refine gc_block ?_
  try simp only [List.nil_append, List.cons_append, List.append_assoc, List.set_cons_succ, List.set_cons_zero]
  refine gc_loop ([(0, _), (1, _), (2, _), (4, _), (5, _), (6, _), (7, _), (17, _), (18, _)] : Env) (fun s : Nat × (List Bool) × (List Int) × (Option Addr) × Nat => (fun (k : Nat) (bs : List Bool) (fs : List Int) (a : Option Addr) (q : Nat) => ([(19, .int .i64 (k : Int))] : Env)) s.1 s.2.1 s.2.2.1 s.2.2.2.1 s.2.2.2.2) (fun s : Nat × (List Bool) × (List Int) × (Option Addr) × Nat => (fun (k : Nat) (bs : List Bool) (fs : List Int) (a : Option Addr) (q : Nat) => ([(1, bxI B5 22 [.slice a fs.length q]), (2, ownBI (.slice (some ⟨B8, 0, none⟩) c.s.length c.s.length) bs), (4, own1I (.slice a fs.length q) fs)] : List (Nat × Itm))) s.1 s.2.1 s.2.2.1 s.2.2.2.1 s.2.2.2.2) (fun s : Nat × (List Bool) × (List Int) × (Option Addr) × Nat => (fun (k : Nat) (bs : List Bool) (fs : List Int) (a : Option Addr) (q : Nat) => k ≤ xs.length ∧ GI c xs bs fs ∧ SeedF c xs fs k) s.1 s.2.1 s.2.2.1 s.2.2.2.1 s.2.2.2.2) (fun s : Nat × (List Bool) × (List Int) × (Option Addr) × Nat => (fun (k : Nat) (bs : List Bool) (fs : List Int) (a : Option Addr) (q : Nat) => xs.length - k) s.1 s.2.1 s.2.2.1 s.2.2.2.1 s.2.2.2.2) (0, List.replicate c.s.length false, [], none, 0) (sub_cons rfl (sub_cons rfl (sub_cons rfl (sub_cons rfl (sub_cons rfl (sub_cons rfl (sub_cons rfl (sub_cons rfl (sub_cons rfl (sub_cons rfl sub_nil)))))))))) rfl ⟨Nat.zero_le _, gi_zero c xs, fun j hj => absurd hj (by omega)⟩ ?_
  rintro ⟨k, bs, fs, a, q⟩ hinv KL16 hKL16
  simp only [updL, List.foldl_cons, List.foldl_nil, List.set_cons_succ, List.set_cons_zero, List.cons_append, List.nil_append] at hinv hKL16 ⊢
  obtain ⟨hk, hgi, hsd⟩ := hinv
  refine gc_seq fun K17 hK17 => ?_
  refine gc_region ?_
  refine g_v (.free rfl) rfl rfl (qt_lss rfl rfl rfl) ?_
  refine g_nil ?_
  refine gk_then (hK17 _ _ ?_)
  refine gc_seq fun K18 hK18 => ?_
  refine gc_cond rfl (fun hc0 => ?_) (fun hc0 => ?_)
  · try simp only [decide_eq_true_eq, decide_eq_false_iff_not, Bool.not_eq_true', Bool.not_eq_false', Bool.not_eq_eq_eq_not, Bool.not_true, Bool.not_false, ne_eq, Decidable.not_not, Classical.not_not] at hc0
    refine gc_skip ?_
    refine gk_then (hK18 _ _ ?_)
    refine gc_seq fun K19 hK19 => ?_
    refine gc_block ?_
    refine gc_seq fun K20 hK20 => ?_
    refine gc_region ?_
    refine g_v (.free rfl) rfl rfl (qt_index rfl rfl rfl ulE1 szE1 (fun w M => lenA_rd hu) (by omega) (by omega)) ?_
    refine g_v (.free rfl) rfl rfl (qt_load1 rfl rfl Try.underlying2 rfl (fun w M => mem_rd M hu) (by omega) (by omega)) ?_
    refine g_v (.free rfl) rfl rfl (qt_assign rfl rfl) ?_
    refine g_nil ?_
    refine gk_then (hK20 _ _ ?_)
    refine gc_seq fun K21 hK21 => ?_
    have hq := seed_pos hS hx (j := k) (by omega)
    obtain ⟨p0, p1, p2, p3, p4, p5⟩ := hq
    have hA := arrP hS p0 p1
    have a1 := hA.fs; have a2 := hA.ft; have a3 := hA.s0; have a4 := hA.s1; have a5 := hA.t0; have a6 := hA.t1
    have hbl := hgi.bl; have hfl := gi_len hgi
    refine gc_region ?_
    refine g_v (.free rfl) rfl rfl (qt_loadS (n := 0) rfl rfl Try.underlying30 rfl (by kernel_rfl) rfl) ?_
    refine g_v (.free rfl) rfl rfl (qt_move rfl rfl) ?_
    refine g_q (.free rfl) rfl rfl (qt_call rfl Try.func159 rfl (by decide) rfl (fun w M => units_any w _ _ _ (mem_rdC M h0) (by first | assumption | omega))) ?_
    refine g_op (.free rfl) fun K23 hK23 => ?_
    refine go_alloc (z := (.agg #[.int .i64 0, .int .i64 0])) (cs := [.int .i64 0, .int .i64 0]) rfl rfl rfl (fun w => by kernel_rfl) rfl ?_
    intro B22
    refine hK23 _ _ ?_
    refine g_op (.free rfl) fun K24 hK24 => ?_
    refine go_storeS (n := 5) rfl rfl rfl rfl (by kernel_rfl) rfl rfl rfl ?_
    refine hK24 _ _ ?_
    refine g_nil ?_
    refine gk_then (hK21 _ _ ?_)
    refine gc_seq fun K25 hK25 => ?_
    refine gc_region ?_
    refine g_v (.free rfl) rfl rfl (qt_move rfl rfl) ?_
    refine g_v (.free rfl) rfl rfl (qt_move rfl rfl) ?_
    refine g_op (.free rfl) fun K27 hK27 => ?_
    refine go_clo 5 (L := [_, _, _, _, _]) (α := Option Addr) (β := Nat) rfl rfl rfl rfl Try.func158 rfl (by decide) rfl rfl rfl (fun w M => genAdd_any _ w _ _ _ _ _ _ _ _ _ _ _ (by first | exact hv.imp id (fun z => ⟨z.1, by omega⟩) | exact hw.imp id (fun z => ⟨z.1, by simp only [addB_len]; omega⟩) | (right; simp only [addB_len]; omega) | (right; omega)) (by first | (simp only [addB_len]; first | assumption | omega) | assumption | omega) (by first | omega | assumption) M) (fun _ _ => rfl) ?_
    intro va26 vc26; simp only [List.take_succ_cons, List.take_zero, List.cons_append, List.nil_append]
    refine hK27 _ _ ?_
    refine g_nil ?_
    refine gk_then (hK25 _ _ ?_)
    refine gc_seq fun K28 hK28 => ?_
    have f1 := addF_len bs fs (at0 xs (k : Int))
    refine gc_region ?_
    refine g_v (.free rfl) rfl rfl (qt_move rfl rfl) ?_
    refine g_v (.free rfl) rfl rfl (qt_field (z := 0) (off := 0) rfl rfl Try.underlying139 rfl (by kernel_rfl) rfl) ?_
    refine g_v (.free rfl) rfl rfl (qt_loadB (n := 5) rfl rfl Try.underlying2 rfl rfl rfl) ?_
    refine g_op (.free rfl) fun K30 hK30 => ?_
    refine go_clo 5 (L := [_, _, _, _, _]) (α := Option Addr) (β := Nat) rfl rfl rfl rfl Try.func158 rfl (by decide) rfl rfl rfl (fun w M => genAdd_any _ w _ _ _ _ _ _ _ _ _ _ _ (by first | exact hv.imp id (fun z => ⟨z.1, by omega⟩) | exact hw.imp id (fun z => ⟨z.1, by simp only [addB_len]; omega⟩) | (right; simp only [addB_len]; omega) | (right; omega)) (by first | (simp only [addB_len]; first | assumption | omega) | assumption | omega) (by first | omega | assumption) M) (fun _ _ => rfl) ?_
    intro va29 vc29; simp only [List.take_succ_cons, List.take_zero, List.cons_append, List.nil_append]
    refine hK30 _ _ ?_
    refine g_nil ?_
    refine gk_then (hK28 _ _ ?_)
    have f2 := addF_len (addB bs (at0 xs (k : Int))) (addF bs fs (at0 xs (k : Int))) (at0 c.e (at0 c.s (at0 xs (k : Int))))
    refine gc_region ?_
    refine g_v (.free rfl) rfl rfl (qt_move rfl rfl) ?_
    refine g_v (.free rfl) rfl rfl (qt_field (z := 0) (off := 1) rfl rfl Try.underlying139 rfl (by kernel_rfl) rfl) ?_
    refine g_v (.free rfl) rfl rfl (qt_loadB (n := 5) rfl rfl Try.underlying2 rfl rfl rfl) ?_
    refine g_op (.free rfl) fun K32 hK32 => ?_
    refine go_clo 5 (L := [_, _, _, _, _]) (α := Option Addr) (β := Nat) rfl rfl rfl rfl Try.func158 rfl (by decide) rfl rfl rfl (fun w M => genAdd_any _ w _ _ _ _ _ _ _ _ _ _ _ (by first | exact hv.imp id (fun z => ⟨z.1, by omega⟩) | exact hw.imp id (fun z => ⟨z.1, by simp only [addB_len]; omega⟩) | (right; simp only [addB_len]; omega) | (right; omega)) (by first | (simp only [addB_len]; first | assumption | omega) | assumption | omega) (by first | omega | assumption) M) (fun _ _ => rfl) ?_
    intro va31 vc31; simp only [List.take_succ_cons, List.take_zero, List.cons_append, List.nil_append]
    refine hK32 _ _ ?_
    refine g_nil ?_
    refine gk_block ?_
    refine gk_then (hK19 _ _ ?_)
    refine gc_region ?_
    refine g_v (.free rfl) rfl rfl (qt_add rfl rfl rfl (by omega)) ?_
    refine g_v (.free rfl) rfl rfl (qt_move rfl rfl) ?_
    refine g_nil ?_
    refine gk_then (gk_take 5 ?_)
    refine gk_sub ?hs_33 (hKL16 (k + 1, _, _, _, _) ?hi_33 ?hm_33)
    case hs_33 => exact (sub_cons rfl (sub_cons rfl (sub_cons rfl (sub_cons rfl (sub_cons rfl (sub_cons rfl (sub_cons rfl (sub_cons rfl (sub_cons rfl (sub_cons rfl sub_nil))))))))))
    case hi_33 => have hn := seedF_step hS hx (by omega) hgi hsd; exact ⟨by omega, hn⟩
    case hm_33 => omega
  · try simp only [decide_eq_true_eq, decide_eq_false_iff_not, Bool.not_eq_true', Bool.not_eq_false', Bool.not_eq_eq_eq_not, Bool.not_true, Bool.not_false, ne_eq, Decidable.not_not, Classical.not_not] at hc0
    refine gc_exit ?_
    refine gk_then_exit ?_
    refine gk_then_exit ?_
    refine gk_block_hit ?_
    refine gk_then (hK14 _ _ ?_)
    refine gc_seq fun K34 hK34 => ?_
    refine gc_seq fun K35 hK35 => ?_
    refine gc_region ?_
    refine g_v (.free rfl) rfl rfl (qt_assign rfl rfl) ?_
    refine g_nil ?_
    refine gk_then (hK35 _ _ ?_)
    refine gc_block ?_
    obtain rfl : k = xs.length := by omega
    try simp only [List.nil_append, List.cons_append, List.append_assoc, List.set_cons_succ, List.set_cons_zero]
    refine gc_loop ([(0, _), (1, _), (2, _), (4, _), (5, _), (6, _), (7, _), (17, _), (18, _), (19, _), (20, _)] : Env) (fun s : Nat × (List Bool) × (List Int) × (Option Addr) × Nat => (fun (i : Nat) (bs1 : List Bool) (fs1 : List Int) (b : Option Addr) (q1 : Nat) => ([(11, .int .i64 (i : Int))] : Env)) s.1 s.2.1 s.2.2.1 s.2.2.2.1 s.2.2.2.2) (fun s : Nat × (List Bool) × (List Int) × (Option Addr) × Nat => (fun (i : Nat) (bs1 : List Bool) (fs1 : List Int) (b : Option Addr) (q1 : Nat) => ([(1, bxI B5 22 [.slice b fs1.length q1]), (2, ownBI (.slice (some ⟨B8, 0, none⟩) c.s.length c.s.length) bs1), (4, own1I (.slice b fs1.length q1) fs1)] : List (Nat × Itm))) s.1 s.2.1 s.2.2.1 s.2.2.2.1 s.2.2.2.2) (fun s : Nat × (List Bool) × (List Int) × (Option Addr) × Nat => (fun (i : Nat) (bs1 : List Bool) (fs1 : List Int) (b : Option Addr) (q1 : Nat) => i ≤ fs1.length ∧ GI c xs bs1 fs1 ∧ SeedF c xs fs1 xs.length ∧ DoneF c fs1 i 0) s.1 s.2.1 s.2.2.1 s.2.2.2.1 s.2.2.2.2) (fun s : Nat × (List Bool) × (List Int) × (Option Addr) × Nat => (fun (i : Nat) (bs1 : List Bool) (fs1 : List Int) (b : Option Addr) (q1 : Nat) => c.s.length - i) s.1 s.2.1 s.2.2.1 s.2.2.2.1 s.2.2.2.2) (0, bs, fs, a, q) (sub_cons rfl (sub_cons rfl (sub_cons rfl (sub_cons rfl (sub_cons rfl (sub_cons rfl (sub_cons rfl (sub_cons rfl (sub_cons rfl (sub_cons rfl (sub_cons rfl (sub_cons rfl sub_nil)))))))))))) rfl ⟨Nat.zero_le _, hgi, hsd, doneF_zero c fs⟩ ?_
    rintro ⟨i, bs1, fs1, b, q1⟩ hinv KL36 hKL36
    simp only [updL, List.foldl_cons, List.foldl_nil, List.set_cons_succ, List.set_cons_zero, List.cons_append, List.nil_append] at hinv hKL36 ⊢
    obtain ⟨hi, hgi1, hsd1, hdn1⟩ := hinv
    have hfl1 := gi_len hgi1
    refine gc_seq fun K37 hK37 => ?_
    refine gc_seq fun K38 hK38 => ?_
    refine gc_region ?_
    refine g_v (.free rfl) rfl rfl (qt_move rfl rfl) ?_
    refine g_v (.free rfl) rfl rfl (qt_loadB (n := 1) rfl rfl Try.underlying22 rfl rfl rfl) ?_
    refine g_v (.free rfl) rfl rfl (qt_len rfl rfl ulE1 (fun w M => lenV_own1 (n := 4) rfl M)) ?_
    refine g_v (.free rfl) rfl rfl (qt_lss rfl rfl rfl) ?_
    refine g_nil ?_
    refine gk_then (hK38 _ _ ?_)
    refine gc_cond rfl (fun hc1 => ?_) (fun hc1 => ?_)
    · try simp only [decide_eq_true_eq, decide_eq_false_iff_not, Bool.not_eq_true', Bool.not_eq_false', Bool.not_eq_eq_eq_not, Bool.not_true, Bool.not_false, ne_eq, Decidable.not_not, Classical.not_not] at hc1
      refine gc_skip ?_
      refine gk_then (hK37 _ _ ?_)
      refine gc_seq fun K39 hK39 => ?_
      refine gc_block ?_
      refine gc_seq fun K40 hK40 => ?_
      refine gc_region ?_
      refine g_v (.free rfl) rfl rfl (qt_assign rfl rfl) ?_
      refine g_nil ?_
      refine gk_then (hK40 _ _ ?_)
      refine gc_block ?_
      try simp only [List.nil_append, List.cons_append, List.append_assoc, List.set_cons_succ, List.set_cons_zero]
      refine gc_loop ([(0, _), (1, _), (2, _), (4, _), (5, _), (6, _), (7, _), (11, _), (17, _), (18, _), (19, _), (20, _), (41, _)] : Env) (fun s : Nat × (List Bool) × (List Int) × (Option Addr) × Nat => (fun (j : Nat) (bs2 : List Bool) (fs2 : List Int) (b2 : Option Addr) (q2 : Nat) => ([(12, .int .i64 (j : Int))] : Env)) s.1 s.2.1 s.2.2.1 s.2.2.2.1 s.2.2.2.2) (fun s : Nat × (List Bool) × (List Int) × (Option Addr) × Nat => (fun (j : Nat) (bs2 : List Bool) (fs2 : List Int) (b2 : Option Addr) (q2 : Nat) => ([(1, bxI B5 22 [.slice b2 fs2.length q2]), (2, ownBI (.slice (some ⟨B8, 0, none⟩) c.s.length c.s.length) bs2), (4, own1I (.slice b2 fs2.length q2) fs2)] : List (Nat × Itm))) s.1 s.2.1 s.2.2.1 s.2.2.2.1 s.2.2.2.2) (fun s : Nat × (List Bool) × (List Int) × (Option Addr) × Nat => (fun (j : Nat) (bs2 : List Bool) (fs2 : List Int) (b2 : Option Addr) (q2 : Nat) => j ≤ i + 1 ∧ i < fs2.length ∧ GI c xs bs2 fs2 ∧ SeedF c xs fs2 xs.length ∧ DoneF c fs2 i j) s.1 s.2.1 s.2.2.1 s.2.2.2.1 s.2.2.2.2) (fun s : Nat × (List Bool) × (List Int) × (Option Addr) × Nat => (fun (j : Nat) (bs2 : List Bool) (fs2 : List Int) (b2 : Option Addr) (q2 : Nat) => i + 1 - j) s.1 s.2.1 s.2.2.1 s.2.2.2.1 s.2.2.2.2) (0, bs1, fs1, b, q1) (sub_cons rfl (sub_cons rfl (sub_cons rfl (sub_cons rfl (sub_cons rfl (sub_cons rfl (sub_cons rfl (sub_cons rfl (sub_cons rfl (sub_cons rfl (sub_cons rfl (sub_cons rfl (sub_cons rfl (sub_cons rfl sub_nil)))))))))))))) rfl ⟨Nat.zero_le _, (by show i < fs1.length; omega), hgi1, hsd1, hdn1⟩ ?_
      rintro ⟨j, bs2, fs2, b2, q2⟩ hinv KL41 hKL41
      simp only [updL, List.foldl_cons, List.foldl_nil, List.set_cons_succ, List.set_cons_zero, List.cons_append, List.nil_append] at hinv hKL41 ⊢
      obtain ⟨hj, hi2, hgi2, hsd2, hdn2⟩ := hinv
      have hfl2 := gi_len hgi2
      refine gc_seq fun K42 hK42 => ?_
      refine gc_seq fun K43 hK43 => ?_
      refine gc_region ?_
      refine g_v (.free rfl) rfl rfl (qt_move rfl rfl) ?_
      refine g_v (.free rfl) rfl rfl (qt_move rfl rfl) ?_
      refine g_v (.free rfl) rfl rfl (qt_leq rfl rfl rfl) ?_
      refine g_nil ?_
      refine gk_then (hK43 _ _ ?_)
      refine gc_cond rfl (fun hc2 => ?_) (fun hc2 => ?_)
      · try simp only [decide_eq_true_eq, decide_eq_false_iff_not, Bool.not_eq_true', Bool.not_eq_false', Bool.not_eq_eq_eq_not, Bool.not_true, Bool.not_false, ne_eq, Decidable.not_not, Classical.not_not] at hc2
        refine gc_skip ?_
        refine gk_then (hK42 _ _ ?_)
        refine gc_seq fun K44 hK44 => ?_
        refine gc_block ?_
        refine gc_seq fun K45 hK45 => ?_
        obtain ⟨i0, i1, ig⟩ := hgi2.sn _ (at0_memC hi2)
        obtain ⟨j0, j1, jg⟩ := hgi2.sn _ (at0_memC (show j < fs2.length by omega))
        obtain ⟨hv, hv2⟩ := th_ok hS i0 i1 j0 j1 ig jg
        have hbl := hgi2.bl; have hfl := gi_len hgi2
        have r4 := (arrP hS i0 i1).row
        try simp only [List.nil_append, List.cons_append, List.append_assoc, List.set_cons_succ, List.set_cons_zero]
        refine gc_cut ([(0, _), (1, _), (2, _), (4, _), (5, _), (6, _), (7, _), (11, _), (12, _), (17, _), (18, _), (19, _), (20, _), (41, _), (46, _)] : Env) (fun s : (Option Addr) × Nat => (fun (b3 : Option Addr) (q3 : Nat) => ([] : Env)) s.1 s.2) (fun s : (Option Addr) × Nat => (fun (b3 : Option Addr) (q3 : Nat) => ([(1, bxI B5 22 [.slice b3 (addF bs2 fs2 (c.th (at0 fs2 (i : Int)) (at0 fs2 (j : Int)))).length q3]), (2, ownBI (.slice (some ⟨B8, 0, none⟩) c.s.length c.s.length) (addB bs2 (c.th (at0 fs2 (i : Int)) (at0 fs2 (j : Int))))), (4, own1I (.slice b3 (addF bs2 fs2 (c.th (at0 fs2 (i : Int)) (at0 fs2 (j : Int)))).length q3) (addF bs2 fs2 (c.th (at0 fs2 (i : Int)) (at0 fs2 (j : Int)))))] : List (Nat × Itm))) s.1 s.2) (fun s : (Option Addr) × Nat => (fun (b3 : Option Addr) (q3 : Nat) => ([] : List Itm)) s.1 s.2) (sub_cons rfl (sub_cons rfl (sub_cons rfl (sub_cons rfl (sub_cons rfl (sub_cons rfl (sub_cons rfl (sub_cons rfl (sub_cons rfl (sub_cons rfl (sub_cons rfl (sub_cons rfl (sub_cons rfl (sub_cons rfl (sub_cons rfl sub_nil))))))))))))))) ?_ (fun HJ46 => ?_)
        · rintro ⟨b3, q3⟩
          simp only [updL, List.foldl_cons, List.foldl_nil, List.set_cons_succ, List.set_cons_zero, List.cons_append, List.nil_append]
          refine gk_then (hK45 _ _ ?_)
          have hn := doneF_step hS hi2 (by omega) hgi2 hsd2 hdn2
          dsimp only at hn
          obtain ⟨g1, l1, l2, g2, s2, d2⟩ := hn
          obtain ⟨x0, x1, xg⟩ := g1.sn _ (at0_memC (show i < _ by omega))
          obtain ⟨y0, y1, yg⟩ := g1.sn _ (at0_memC (show j < _ by omega))
          obtain ⟨hw, hw2⟩ := th_ok hS y0 y1 x0 x1 yg xg
          have hfl1 := gi_len g1
          have r5 := (arrP hS y0 y1).row
          try simp only [List.nil_append, List.cons_append, List.append_assoc, List.set_cons_succ, List.set_cons_zero]
          refine gc_cut ([(0, _), (1, _), (2, _), (4, _), (5, _), (6, _), (7, _), (11, _), (12, _), (17, _), (18, _), (19, _), (20, _), (41, _), (46, _)] : Env) (fun s : (Option Addr) × Nat => (fun (b4 : Option Addr) (q4 : Nat) => ([] : Env)) s.1 s.2) (fun s : (Option Addr) × Nat => (fun (b4 : Option Addr) (q4 : Nat) => ([(1, bxI B5 22 [.slice b4 (addF (addB bs2 (c.th (at0 fs2 (i : Int)) (at0 fs2 (j : Int)))) (addF bs2 fs2 (c.th (at0 fs2 (i : Int)) (at0 fs2 (j : Int)))) (c.th (at0 (addF bs2 fs2 (c.th (at0 fs2 (i : Int)) (at0 fs2 (j : Int)))) (j : Int)) (at0 (addF bs2 fs2 (c.th (at0 fs2 (i : Int)) (at0 fs2 (j : Int)))) (i : Int)))).length q4]), (2, ownBI (.slice (some ⟨B8, 0, none⟩) c.s.length c.s.length) (addB (addB bs2 (c.th (at0 fs2 (i : Int)) (at0 fs2 (j : Int)))) (c.th (at0 (addF bs2 fs2 (c.th (at0 fs2 (i : Int)) (at0 fs2 (j : Int)))) (j : Int)) (at0 (addF bs2 fs2 (c.th (at0 fs2 (i : Int)) (at0 fs2 (j : Int)))) (i : Int))))), (4, own1I (.slice b4 (addF (addB bs2 (c.th (at0 fs2 (i : Int)) (at0 fs2 (j : Int)))) (addF bs2 fs2 (c.th (at0 fs2 (i : Int)) (at0 fs2 (j : Int)))) (c.th (at0 (addF bs2 fs2 (c.th (at0 fs2 (i : Int)) (at0 fs2 (j : Int)))) (j : Int)) (at0 (addF bs2 fs2 (c.th (at0 fs2 (i : Int)) (at0 fs2 (j : Int)))) (i : Int)))).length q4) (addF (addB bs2 (c.th (at0 fs2 (i : Int)) (at0 fs2 (j : Int)))) (addF bs2 fs2 (c.th (at0 fs2 (i : Int)) (at0 fs2 (j : Int)))) (c.th (at0 (addF bs2 fs2 (c.th (at0 fs2 (i : Int)) (at0 fs2 (j : Int)))) (j : Int)) (at0 (addF bs2 fs2 (c.th (at0 fs2 (i : Int)) (at0 fs2 (j : Int)))) (i : Int)))))] : List (Nat × Itm))) s.1 s.2) (fun s : (Option Addr) × Nat => (fun (b4 : Option Addr) (q4 : Nat) => ([] : List Itm)) s.1 s.2) (sub_cons rfl (sub_cons rfl (sub_cons rfl (sub_cons rfl (sub_cons rfl (sub_cons rfl (sub_cons rfl (sub_cons rfl (sub_cons rfl (sub_cons rfl (sub_cons rfl (sub_cons rfl (sub_cons rfl (sub_cons rfl (sub_cons rfl sub_nil))))))))))))))) ?_ (fun HJ47 => ?_)
          · rintro ⟨b4, q4⟩
            simp only [updL, List.foldl_cons, List.foldl_nil, List.set_cons_succ, List.set_cons_zero, List.cons_append, List.nil_append]
            refine gk_block ?_
            refine gk_then (hK44 _ _ ?_)
            refine gc_region ?_
            refine g_v (.free rfl) rfl rfl (qt_move rfl rfl) ?_
            refine g_v (.free rfl) rfl rfl (qt_add rfl rfl rfl (by omega)) ?_
            refine g_v (.free rfl) rfl rfl (qt_assign rfl rfl) ?_
            refine g_nil ?_
            refine gk_then (gk_take 5 ?_)
            refine gk_sub ?hs_48 (hKL41 (j + 1, _, _, _, _) ?hi_48 ?hm_48)
            case hs_48 => exact (sub_cons rfl (sub_cons rfl (sub_cons rfl (sub_cons rfl (sub_cons rfl (sub_cons rfl (sub_cons rfl (sub_cons rfl (sub_cons rfl (sub_cons rfl (sub_cons rfl (sub_cons rfl (sub_cons rfl (sub_cons rfl sub_nil))))))))))))))
            case hi_48 => exact ⟨by omega, Nat.lt_of_lt_of_le hi2 l2, g2, s2, d2⟩
            case hm_48 => omega
          simp only [updL, List.foldl_cons, List.foldl_nil, List.set_cons_succ, List.set_cons_zero, List.cons_append, List.nil_append] at HJ47
          refine ga_start _ (fun w M => mem_erase 1 (mem_erase 2 (mem_erase 4 (M)))) ?_
          refine ga_v 0 rfl (by kernel_rfl) (by kernel_rfl) (by kernel_rfl) (.free rfl) rfl rfl (qt_move rfl rfl) (fun _ _ _ h => h) ?_
          refine ga_v 1 rfl (by kernel_rfl) (by kernel_rfl) (by kernel_rfl) (.free rfl) rfl rfl (qt_loadS (n := 0) rfl rfl Try.underlying30 rfl (by kernel_rfl) rfl) (fun _ _ _ h => h) ?_
          refine ga_v 3 rfl (by kernel_rfl) (by kernel_rfl) (by kernel_rfl) (.free rfl) rfl rfl (qt_move rfl rfl) (fun _ _ _ h => h) ?_
          refine ga_v 7 rfl (by kernel_rfl) (by kernel_rfl) (by kernel_rfl) (.free rfl) rfl rfl (qt_move rfl rfl) (fun _ _ _ h => h) ?_
          refine ga_two 2 6 (by kernel_rfl) rfl rfl (.free rfl) (.free rfl) (fun K49 hK49 => ?_) (fun K49 hK49 => ?_)
          · refine go_v rfl rfl (qt_loadB (n := 1) rfl rfl Try.underlying22 rfl rfl rfl) ?_
            refine hK49 _ _ (fun w M => (mem_erase 1 (mem_erase 2 (mem_erase 4 (mem_take 5 M))) :)) ?_
            refine ga_two 4 6 (by kernel_rfl) rfl rfl (.free rfl) (.free rfl) (fun K51 hK51 => ?_) (fun K51 hK51 => ?_)
            · refine go_v rfl rfl (qt_index rfl rfl rfl ulE1 szE1 (fun w M => lenA_own1 (n := 4) rfl M) (by omega) (by omega)) ?_
              refine hK51 _ _ (fun w M => (mem_erase 1 (mem_erase 2 (mem_erase 4 (mem_take 5 M))) :)) ?_
              refine ga_two 5 6 (by kernel_rfl) rfl rfl (.free rfl) (.free rfl) (fun K53 hK53 => ?_) (fun K53 hK53 => ?_)
              · refine go_v rfl rfl (qt_load1 rfl rfl Try.underlying2 rfl (fun w M => (mem_own1 (n := 4) M rfl).rd) (by omega) (by omega)) ?_
                refine hK53 _ _ (fun w M => (mem_erase 1 (mem_erase 2 (mem_erase 4 (mem_take 5 M))) :)) ?_
                refine ga_op 6 (by kernel_rfl) rfl (.free rfl) fun K55 hK55 => ?_
                refine go_v rfl rfl (qt_loadB (n := 1) rfl rfl Try.underlying22 rfl rfl rfl) ?_
                refine hK55 _ _ (fun w M => (mem_erase 1 (mem_erase 2 (mem_erase 4 (mem_take 5 M))) :)) ?_
                refine ga_op 8 (by kernel_rfl) rfl (.free rfl) fun K56 hK56 => ?_
                refine go_v rfl rfl (qt_index rfl rfl rfl ulE1 szE1 (fun w M => lenA_own1 (n := 4) rfl M) (by omega) (by omega)) ?_
                refine hK56 _ _ (fun w M => (mem_erase 1 (mem_erase 2 (mem_erase 4 (mem_take 5 M))) :)) ?_
                refine ga_op 9 (by kernel_rfl) rfl (.free rfl) fun K57 hK57 => ?_
                refine go_v rfl rfl (qt_load1 rfl rfl Try.underlying2 rfl (fun w M => (mem_own1 (n := 4) M rfl).rd) (by omega) (by omega)) ?_
                refine hK57 _ _ (fun w M => (mem_erase 1 (mem_erase 2 (mem_erase 4 (mem_take 5 M))) :)) ?_
                refine ga_op 10 (by kernel_rfl) rfl (.free rfl) fun K58 hK58 => ?_
                refine go_q rfl rfl (qt_call rfl Try.func105 rfl (by decide) rfl (fun w M => then_any w _ _ _ _ (mem_rdC M h0) (by first | assumption | omega) (by first | assumption | omega) (by first | assumption | omega) (by first | assumption | omega))) ?_
                refine hK58 _ _ (fun w M => (mem_erase 1 (mem_erase 2 (mem_erase 4 (mem_take 5 M))) :)) ?_
                refine ga_op 11 (by kernel_rfl) rfl (.free rfl) fun K60 hK60 => ?_
                refine go_clo 5 (L := [_, _, _, _, _]) (α := Option Addr) (β := Nat) rfl rfl rfl rfl Try.func158 rfl (by decide) rfl rfl rfl (fun w M => genAdd_any _ w _ _ _ _ _ _ _ _ _ _ _ (by first | exact hv.imp id (fun z => ⟨z.1, by omega⟩) | exact hw.imp id (fun z => ⟨z.1, by simp only [addB_len]; omega⟩) | (right; simp only [addB_len]; omega) | (right; omega)) (by first | (simp only [addB_len]; first | assumption | omega) | assumption | omega) (by first | omega | assumption) M) (fun _ _ => rfl) ?_
                intro va59 vc59; simp only [List.take_succ_cons, List.take_zero, List.cons_append, List.nil_append]
                refine hK60 _ _ (fun w M => (mem_erase 1 (mem_erase 2 (mem_erase 4 (mem_take 5 M))) :)) ?_
                refine ga_done (by kernel_rfl) ?_
                refine gk_pickL [0, 0, 0, 0, 0] ?_
                refine gk_sub ?hs_61 (HJ47 (_, _))
                case hs_61 => exact (sub_cons rfl (sub_cons rfl (sub_cons rfl (sub_cons rfl (sub_cons rfl (sub_cons rfl (sub_cons rfl (sub_cons rfl (sub_cons rfl (sub_cons rfl (sub_cons rfl (sub_cons rfl (sub_cons rfl (sub_cons rfl (sub_cons rfl sub_nil)))))))))))))))
              · refine go_v rfl rfl (qt_loadB (n := 1) rfl rfl Try.underlying22 rfl rfl rfl) ?_
                refine hK53 _ _ (fun w M => (mem_erase 1 (mem_erase 2 (mem_erase 4 (mem_take 5 M))) :)) ?_
                refine ga_two 5 8 (by kernel_rfl) rfl rfl (.free rfl) (.free rfl) (fun K63 hK63 => ?_) (fun K63 hK63 => ?_)
                · refine go_v rfl rfl (qt_load1 rfl rfl Try.underlying2 rfl (fun w M => (mem_own1 (n := 4) M rfl).rd) (by omega) (by omega)) ?_
                  refine hK63 _ _ (fun w M => (mem_erase 1 (mem_erase 2 (mem_erase 4 (mem_take 5 M))) :)) ?_
                  refine ga_op 8 (by kernel_rfl) rfl (.free rfl) fun K65 hK65 => ?_
                  refine go_v rfl rfl (qt_index rfl rfl rfl ulE1 szE1 (fun w M => lenA_own1 (n := 4) rfl M) (by omega) (by omega)) ?_
                  refine hK65 _ _ (fun w M => (mem_erase 1 (mem_erase 2 (mem_erase 4 (mem_take 5 M))) :)) ?_
                  refine ga_op 9 (by kernel_rfl) rfl (.free rfl) fun K66 hK66 => ?_
                  refine go_v rfl rfl (qt_load1 rfl rfl Try.underlying2 rfl (fun w M => (mem_own1 (n := 4) M rfl).rd) (by omega) (by omega)) ?_
                  refine hK66 _ _ (fun w M => (mem_erase 1 (mem_erase 2 (mem_erase 4 (mem_take 5 M))) :)) ?_
                  refine ga_op 10 (by kernel_rfl) rfl (.free rfl) fun K67 hK67 => ?_
                  refine go_q rfl rfl (qt_call rfl Try.func105 rfl (by decide) rfl (fun w M => then_any w _ _ _ _ (mem_rdC M h0) (by first | assumption | omega) (by first | assumption | omega) (by first | assumption | omega) (by first | assumption | omega))) ?_
                  refine hK67 _ _ (fun w M => (mem_erase 1 (mem_erase 2 (mem_erase 4 (mem_take 5 M))) :)) ?_
                  refine ga_op 11 (by kernel_rfl) rfl (.free rfl) fun K69 hK69 => ?_
                  refine go_clo 5 (L := [_, _, _, _, _]) (α := Option Addr) (β := Nat) rfl rfl rfl rfl Try.func158 rfl (by decide) rfl rfl rfl (fun w M => genAdd_any _ w _ _ _ _ _ _ _ _ _ _ _ (by first | exact hv.imp id (fun z => ⟨z.1, by omega⟩) | exact hw.imp id (fun z => ⟨z.1, by simp only [addB_len]; omega⟩) | (right; simp only [addB_len]; omega) | (right; omega)) (by first | (simp only [addB_len]; first | assumption | omega) | assumption | omega) (by first | omega | assumption) M) (fun _ _ => rfl) ?_
                  intro va68 vc68; simp only [List.take_succ_cons, List.take_zero, List.cons_append, List.nil_append]
                  refine hK69 _ _ (fun w M => (mem_erase 1 (mem_erase 2 (mem_erase 4 (mem_take 5 M))) :)) ?_
                  refine ga_done (by kernel_rfl) ?_
                  refine gk_pickL [0, 0, 0, 0, 0] ?_
                  refine gk_sub ?hs_70 (HJ47 (_, _))
                  case hs_70 => exact (sub_cons rfl (sub_cons rfl (sub_cons rfl (sub_cons rfl (sub_cons rfl (sub_cons rfl (sub_cons rfl (sub_cons rfl (sub_cons rfl (sub_cons rfl (sub_cons rfl (sub_cons rfl (sub_cons rfl (sub_cons rfl (sub_cons rfl sub_nil)))))))))))))))
                · refine go_v rfl rfl (qt_index rfl rfl rfl ulE1 szE1 (fun w M => lenA_own1 (n := 4) rfl M) (by omega) (by omega)) ?_
                  refine hK63 _ _ (fun w M => (mem_erase 1 (mem_erase 2 (mem_erase 4 (mem_take 5 M))) :)) ?_
                  refine ga_two 5 9 (by kernel_rfl) rfl rfl (.free rfl) (.free rfl) (fun K72 hK72 => ?_) (fun K72 hK72 => ?_)
                  · refine go_v rfl rfl (qt_load1 rfl rfl Try.underlying2 rfl (fun w M => (mem_own1 (n := 4) M rfl).rd) (by omega) (by omega)) ?_
                    refine hK72 _ _ (fun w M => (mem_erase 1 (mem_erase 2 (mem_erase 4 (mem_take 5 M))) :)) ?_
                    refine ga_op 9 (by kernel_rfl) rfl (.free rfl) fun K74 hK74 => ?_
                    refine go_v rfl rfl (qt_load1 rfl rfl Try.underlying2 rfl (fun w M => (mem_own1 (n := 4) M rfl).rd) (by omega) (by omega)) ?_
                    refine hK74 _ _ (fun w M => (mem_erase 1 (mem_erase 2 (mem_erase 4 (mem_take 5 M))) :)) ?_
                    refine ga_op 10 (by kernel_rfl) rfl (.free rfl) fun K75 hK75 => ?_
                    refine go_q rfl rfl (qt_call rfl Try.func105 rfl (by decide) rfl (fun w M => then_any w _ _ _ _ (mem_rdC M h0) (by first | assumption | omega) (by first | assumption | omega) (by first | assumption | omega) (by first | assumption | omega))) ?_
                    refine hK75 _ _ (fun w M => (mem_erase 1 (mem_erase 2 (mem_erase 4 (mem_take 5 M))) :)) ?_
                    refine ga_op 11 (by kernel_rfl) rfl (.free rfl) fun K77 hK77 => ?_
                    refine go_clo 5 (L := [_, _, _, _, _]) (α := Option Addr) (β := Nat) rfl rfl rfl rfl Try.func158 rfl (by decide) rfl rfl rfl (fun w M => genAdd_any _ w _ _ _ _ _ _ _ _ _ _ _ (by first | exact hv.imp id (fun z => ⟨z.1, by omega⟩) | exact hw.imp id (fun z => ⟨z.1, by simp only [addB_len]; omega⟩) | (right; simp only [addB_len]; omega) | (right; omega)) (by first | (simp only [addB_len]; first | assumption | omega) | assumption | omega) (by first | omega | assumption) M) (fun _ _ => rfl) ?_
                    intro va76 vc76; simp only [List.take_succ_cons, List.take_zero, List.cons_append, List.nil_append]
                    refine hK77 _ _ (fun w M => (mem_erase 1 (mem_erase 2 (mem_erase 4 (mem_take 5 M))) :)) ?_
                    refine ga_done (by kernel_rfl) ?_
                    refine gk_pickL [0, 0, 0, 0, 0] ?_
                    refine gk_sub ?hs_78 (HJ47 (_, _))
                    case hs_78 => exact (sub_cons rfl (sub_cons rfl (sub_cons rfl (sub_cons rfl (sub_cons rfl (sub_cons rfl (sub_cons rfl (sub_cons rfl (sub_cons rfl (sub_cons rfl (sub_cons rfl (sub_cons rfl (sub_cons rfl (sub_cons rfl (sub_cons rfl sub_nil)))))))))))))))
                  · refine go_v rfl rfl (qt_load1 rfl rfl Try.underlying2 rfl (fun w M => (mem_own1 (n := 4) M rfl).rd) (by omega) (by omega)) ?_
                    refine hK72 _ _ (fun w M => (mem_erase 1 (mem_erase 2 (mem_erase 4 (mem_take 5 M))) :)) ?_
                    refine ga_op 5 (by kernel_rfl) rfl (.free rfl) fun K80 hK80 => ?_
                    refine go_v rfl rfl (qt_load1 rfl rfl Try.underlying2 rfl (fun w M => (mem_own1 (n := 4) M rfl).rd) (by omega) (by omega)) ?_
                    refine hK80 _ _ (fun w M => (mem_erase 1 (mem_erase 2 (mem_erase 4 (mem_take 5 M))) :)) ?_
                    refine ga_op 10 (by kernel_rfl) rfl (.free rfl) fun K81 hK81 => ?_
                    refine go_q rfl rfl (qt_call rfl Try.func105 rfl (by decide) rfl (fun w M => then_any w _ _ _ _ (mem_rdC M h0) (by first | assumption | omega) (by first | assumption | omega) (by first | assumption | omega) (by first | assumption | omega))) ?_
                    refine hK81 _ _ (fun w M => (mem_erase 1 (mem_erase 2 (mem_erase 4 (mem_take 5 M))) :)) ?_
                    refine ga_op 11 (by kernel_rfl) rfl (.free rfl) fun K83 hK83 => ?_
                    refine go_clo 5 (L := [_, _, _, _, _]) (α := Option Addr) (β := Nat) rfl rfl rfl rfl Try.func158 rfl (by decide) rfl rfl rfl (fun w M => genAdd_any _ w _ _ _ _ _ _ _ _ _ _ _ (by first | exact hv.imp id (fun z => ⟨z.1, by omega⟩) | exact hw.imp id (fun z => ⟨z.1, by simp only [addB_len]; omega⟩) | (right; simp only [addB_len]; omega) | (right; omega)) (by first | (simp only [addB_len]; first | assumption | omega) | assumption | omega) (by first | omega | assumption) M) (fun _ _ => rfl) ?_
                    intro va82 vc82; simp only [List.take_succ_cons, List.take_zero, List.cons_append, List.nil_append]
                    refine hK83 _ _ (fun w M => (mem_erase 1 (mem_erase 2 (mem_erase 4 (mem_take 5 M))) :)) ?_
                    refine ga_done (by kernel_rfl) ?_
                    refine gk_pickL [0, 0, 0, 0, 0] ?_
                    refine gk_sub ?hs_84 (HJ47 (_, _))
                    case hs_84 => exact (sub_cons rfl (sub_cons rfl (sub_cons rfl (sub_cons rfl (sub_cons rfl (sub_cons rfl (sub_cons rfl (sub_cons rfl (sub_cons rfl (sub_cons rfl (sub_cons rfl (sub_cons rfl (sub_cons rfl (sub_cons rfl (sub_cons rfl sub_nil)))))))))))))))
            · refine go_v rfl rfl (qt_loadB (n := 1) rfl rfl Try.underlying22 rfl rfl rfl) ?_
              refine hK51 _ _ (fun w M => (mem_erase 1 (mem_erase 2 (mem_erase 4 (mem_take 5 M))) :)) ?_
              refine ga_two 4 8 (by kernel_rfl) rfl rfl (.free rfl) (.free rfl) (fun K86 hK86 => ?_) (fun K86 hK86 => ?_)
              · refine go_v rfl rfl (qt_index rfl rfl rfl ulE1 szE1 (fun w M => lenA_own1 (n := 4) rfl M) (by omega) (by omega)) ?_
                refine hK86 _ _ (fun w M => (mem_erase 1 (mem_erase 2 (mem_erase 4 (mem_take 5 M))) :)) ?_
                refine ga_two 5 8 (by kernel_rfl) rfl rfl (.free rfl) (.free rfl) (fun K88 hK88 => ?_) (fun K88 hK88 => ?_)
                · refine go_v rfl rfl (qt_load1 rfl rfl Try.underlying2 rfl (fun w M => (mem_own1 (n := 4) M rfl).rd) (by omega) (by omega)) ?_
                  refine hK88 _ _ (fun w M => (mem_erase 1 (mem_erase 2 (mem_erase 4 (mem_take 5 M))) :)) ?_
                  refine ga_op 8 (by kernel_rfl) rfl (.free rfl) fun K90 hK90 => ?_
                  refine go_v rfl rfl (qt_index rfl rfl rfl ulE1 szE1 (fun w M => lenA_own1 (n := 4) rfl M) (by omega) (by omega)) ?_
                  refine hK90 _ _ (fun w M => (mem_erase 1 (mem_erase 2 (mem_erase 4 (mem_take 5 M))) :)) ?_
                  refine ga_op 9 (by kernel_rfl) rfl (.free rfl) fun K91 hK91 => ?_
                  refine go_v rfl rfl (qt_load1 rfl rfl Try.underlying2 rfl (fun w M => (mem_own1 (n := 4) M rfl).rd) (by omega) (by omega)) ?_
                  refine hK91 _ _ (fun w M => (mem_erase 1 (mem_erase 2 (mem_erase 4 (mem_take 5 M))) :)) ?_
                  refine ga_op 10 (by kernel_rfl) rfl (.free rfl) fun K92 hK92 => ?_
                  refine go_q rfl rfl (qt_call rfl Try.func105 rfl (by decide) rfl (fun w M => then_any w _ _ _ _ (mem_rdC M h0) (by first | assumption | omega) (by first | assumption | omega) (by first | assumption | omega) (by first | assumption | omega))) ?_
                  refine hK92 _ _ (fun w M => (mem_erase 1 (mem_erase 2 (mem_erase 4 (mem_take 5 M))) :)) ?_
                  refine ga_op 11 (by kernel_rfl) rfl (.free rfl) fun K94 hK94 => ?_
                  refine go_clo 5 (L := [_, _, _, _, _]) (α := Option Addr) (β := Nat) rfl rfl rfl rfl Try.func158 rfl (by decide) rfl rfl rfl (fun w M => genAdd_any _ w _ _ _ _ _ _ _ _ _ _ _ (by first | exact hv.imp id (fun z => ⟨z.1, by omega⟩) | exact hw.imp id (fun z => ⟨z.1, by simp only [addB_len]; omega⟩) | (right; simp only [addB_len]; omega) | (right; omega)) (by first | (simp only [addB_len]; first | assumption | omega) | assumption | omega) (by first | omega | assumption) M) (fun _ _ => rfl) ?_
                  intro va93 vc93; simp only [List.take_succ_cons, List.take_zero, List.cons_append, List.nil_append]
                  refine hK94 _ _ (fun w M => (mem_erase 1 (mem_erase 2 (mem_erase 4 (mem_take 5 M))) :)) ?_
                  refine ga_done (by kernel_rfl) ?_
                  refine gk_pickL [0, 0, 0, 0, 0] ?_
                  refine gk_sub ?hs_95 (HJ47 (_, _))
                  case hs_95 => exact (sub_cons rfl (sub_cons rfl (sub_cons rfl (sub_cons rfl (sub_cons rfl (sub_cons rfl (sub_cons rfl (sub_cons rfl (sub_cons rfl (sub_cons rfl (sub_cons rfl (sub_cons rfl (sub_cons rfl (sub_cons rfl (sub_cons rfl sub_nil)))))))))))))))
                · refine go_v rfl rfl (qt_index rfl rfl rfl ulE1 szE1 (fun w M => lenA_own1 (n := 4) rfl M) (by omega) (by omega)) ?_
                  refine hK88 _ _ (fun w M => (mem_erase 1 (mem_erase 2 (mem_erase 4 (mem_take 5 M))) :)) ?_
                  refine ga_two 5 9 (by kernel_rfl) rfl rfl (.free rfl) (.free rfl) (fun K97 hK97 => ?_) (fun K97 hK97 => ?_)
                  · refine go_v rfl rfl (qt_load1 rfl rfl Try.underlying2 rfl (fun w M => (mem_own1 (n := 4) M rfl).rd) (by omega) (by omega)) ?_
                    refine hK97 _ _ (fun w M => (mem_erase 1 (mem_erase 2 (mem_erase 4 (mem_take 5 M))) :)) ?_
                    refine ga_op 9 (by kernel_rfl) rfl (.free rfl) fun K99 hK99 => ?_
                    refine go_v rfl rfl (qt_load1 rfl rfl Try.underlying2 rfl (fun w M => (mem_own1 (n := 4) M rfl).rd) (by omega) (by omega)) ?_
                    refine hK99 _ _ (fun w M => (mem_erase 1 (mem_erase 2 (mem_erase 4 (mem_take 5 M))) :)) ?_
                    refine ga_op 10 (by kernel_rfl) rfl (.free rfl) fun K100 hK100 => ?_
                    refine go_q rfl rfl (qt_call rfl Try.func105 rfl (by decide) rfl (fun w M => then_any w _ _ _ _ (mem_rdC M h0) (by first | assumption | omega) (by first | assumption | omega) (by first | assumption | omega) (by first | assumption | omega))) ?_
                    refine hK100 _ _ (fun w M => (mem_erase 1 (mem_erase 2 (mem_erase 4 (mem_take 5 M))) :)) ?_
                    refine ga_op 11 (by kernel_rfl) rfl (.free rfl) fun K102 hK102 => ?_
                    refine go_clo 5 (L := [_, _, _, _, _]) (α := Option Addr) (β := Nat) rfl rfl rfl rfl Try.func158 rfl (by decide) rfl rfl rfl (fun w M => genAdd_any _ w _ _ _ _ _ _ _ _ _ _ _ (by first | exact hv.imp id (fun z => ⟨z.1, by omega⟩) | exact hw.imp id (fun z => ⟨z.1, by simp only [addB_len]; omega⟩) | (right; simp only [addB_len]; omega) | (right; omega)) (by first | (simp only [addB_len]; first | assumption | omega) | assumption | omega) (by first | omega | assumption) M) (fun _ _ => rfl) ?_
                    intro va101 vc101; simp only [List.take_succ_cons, List.take_zero, List.cons_append, List.nil_append]
                    refine hK102 _ _ (fun w M => (mem_erase 1 (mem_erase 2 (mem_erase 4 (mem_take 5 M))) :)) ?_
                    refine ga_done (by kernel_rfl) ?_
                    refine gk_pickL [0, 0, 0, 0, 0] ?_
                    refine gk_sub ?hs_103 (HJ47 (_, _))
                    case hs_103 => exact (sub_cons rfl (sub_cons rfl (sub_cons rfl (sub_cons rfl (sub_cons rfl (sub_cons rfl (sub_cons rfl (sub_cons rfl (sub_cons rfl (sub_cons rfl (sub_cons rfl (sub_cons rfl (sub_cons rfl (sub_cons rfl (sub_cons rfl sub_nil)))))))))))))))
                  · refine go_v rfl rfl (qt_load1 rfl rfl Try.underlying2 rfl (fun w M => (mem_own1 (n := 4) M rfl).rd) (by omega) (by omega)) ?_
                    refine hK97 _ _ (fun w M => (mem_erase 1 (mem_erase 2 (mem_erase 4 (mem_take 5 M))) :)) ?_
                    refine ga_op 5 (by kernel_rfl) rfl (.free rfl) fun K105 hK105 => ?_
                    refine go_v rfl rfl (qt_load1 rfl rfl Try.underlying2 rfl (fun w M => (mem_own1 (n := 4) M rfl).rd) (by omega) (by omega)) ?_
                    refine hK105 _ _ (fun w M => (mem_erase 1 (mem_erase 2 (mem_erase 4 (mem_take 5 M))) :)) ?_
                    refine ga_op 10 (by kernel_rfl) rfl (.free rfl) fun K106 hK106 => ?_
                    refine go_q rfl rfl (qt_call rfl Try.func105 rfl (by decide) rfl (fun w M => then_any w _ _ _ _ (mem_rdC M h0) (by first | assumption | omega) (by first | assumption | omega) (by first | assumption | omega) (by first | assumption | omega))) ?_
                    refine hK106 _ _ (fun w M => (mem_erase 1 (mem_erase 2 (mem_erase 4 (mem_take 5 M))) :)) ?_
                    refine ga_op 11 (by kernel_rfl) rfl (.free rfl) fun K108 hK108 => ?_
                    refine go_clo 5 (L := [_, _, _, _, _]) (α := Option Addr) (β := Nat) rfl rfl rfl rfl Try.func158 rfl (by decide) rfl rfl rfl (fun w M => genAdd_any _ w _ _ _ _ _ _ _ _ _ _ _ (by first | exact hv.imp id (fun z => ⟨z.1, by omega⟩) | exact hw.imp id (fun z => ⟨z.1, by simp only [addB_len]; omega⟩) | (right; simp only [addB_len]; omega) | (right; omega)) (by first | (simp only [addB_len]; first | assumption | omega) | assumption | omega) (by first | omega | assumption) M) (fun _ _ => rfl) ?_
                    intro va107 vc107; simp only [List.take_succ_cons, List.take_zero, List.cons_append, List.nil_append]
                    refine hK108 _ _ (fun w M => (mem_erase 1 (mem_erase 2 (mem_erase 4 (mem_take 5 M))) :)) ?_
                    refine ga_done (by kernel_rfl) ?_
                    refine gk_pickL [0, 0, 0, 0, 0] ?_
                    refine gk_sub ?hs_109 (HJ47 (_, _))
                    case hs_109 => exact (sub_cons rfl (sub_cons rfl (sub_cons rfl (sub_cons rfl (sub_cons rfl (sub_cons rfl (sub_cons rfl (sub_cons rfl (sub_cons rfl (sub_cons rfl (sub_cons rfl (sub_cons rfl (sub_cons rfl (sub_cons rfl (sub_cons rfl sub_nil)))))))))))))))
              · refine go_v rfl rfl (qt_index rfl rfl rfl ulE1 szE1 (fun w M => lenA_own1 (n := 4) rfl M) (by omega) (by omega)) ?_
                refine hK86 _ _ (fun w M => (mem_erase 1 (mem_erase 2 (mem_erase 4 (mem_take 5 M))) :)) ?_
                refine ga_two 4 9 (by kernel_rfl) rfl rfl (.free rfl) (.free rfl) (fun K111 hK111 => ?_) (fun K111 hK111 => ?_)
                · refine go_v rfl rfl (qt_index rfl rfl rfl ulE1 szE1 (fun w M => lenA_own1 (n := 4) rfl M) (by omega) (by omega)) ?_
                  refine hK111 _ _ (fun w M => (mem_erase 1 (mem_erase 2 (mem_erase 4 (mem_take 5 M))) :)) ?_
                  refine ga_two 5 9 (by kernel_rfl) rfl rfl (.free rfl) (.free rfl) (fun K113 hK113 => ?_) (fun K113 hK113 => ?_)
                  · refine go_v rfl rfl (qt_load1 rfl rfl Try.underlying2 rfl (fun w M => (mem_own1 (n := 4) M rfl).rd) (by omega) (by omega)) ?_
                    refine hK113 _ _ (fun w M => (mem_erase 1 (mem_erase 2 (mem_erase 4 (mem_take 5 M))) :)) ?_
                    refine ga_op 9 (by kernel_rfl) rfl (.free rfl) fun K115 hK115 => ?_
                    refine go_v rfl rfl (qt_load1 rfl rfl Try.underlying2 rfl (fun w M => (mem_own1 (n := 4) M rfl).rd) (by omega) (by omega)) ?_
                    refine hK115 _ _ (fun w M => (mem_erase 1 (mem_erase 2 (mem_erase 4 (mem_take 5 M))) :)) ?_
                    refine ga_op 10 (by kernel_rfl) rfl (.free rfl) fun K116 hK116 => ?_
                    refine go_q rfl rfl (qt_call rfl Try.func105 rfl (by decide) rfl (fun w M => then_any w _ _ _ _ (mem_rdC M h0) (by first | assumption | omega) (by first | assumption | omega) (by first | assumption | omega) (by first | assumption | omega))) ?_
                    refine hK116 _ _ (fun w M => (mem_erase 1 (mem_erase 2 (mem_erase 4 (mem_take 5 M))) :)) ?_
                    refine ga_op 11 (by kernel_rfl) rfl (.free rfl) fun K118 hK118 => ?_
                    refine go_clo 5 (L := [_, _, _, _, _]) (α := Option Addr) (β := Nat) rfl rfl rfl rfl Try.func158 rfl (by decide) rfl rfl rfl (fun w M => genAdd_any _ w _ _ _ _ _ _ _ _ _ _ _ (by first | exact hv.imp id (fun z => ⟨z.1, by omega⟩) | exact hw.imp id (fun z => ⟨z.1, by simp only [addB_len]; omega⟩) | (right; simp only [addB_len]; omega) | (right; omega)) (by first | (simp only [addB_len]; first | assumption | omega) | assumption | omega) (by first | omega | assumption) M) (fun _ _ => rfl) ?_
                    intro va117 vc117; simp only [List.take_succ_cons, List.take_zero, List.cons_append, List.nil_append]
                    refine hK118 _ _ (fun w M => (mem_erase 1 (mem_erase 2 (mem_erase 4 (mem_take 5 M))) :)) ?_
                    refine ga_done (by kernel_rfl) ?_
                    refine gk_pickL [0, 0, 0, 0, 0] ?_
                    refine gk_sub ?hs_119 (HJ47 (_, _))
                    case hs_119 => exact (sub_cons rfl (sub_cons rfl (sub_cons rfl (sub_cons rfl (sub_cons rfl (sub_cons rfl (sub_cons rfl (sub_cons rfl (sub_cons rfl (sub_cons rfl (sub_cons rfl (sub_cons rfl (sub_cons rfl (sub_cons rfl (sub_cons rfl sub_nil)))))))))))))))
                  · refine go_v rfl rfl (qt_load1 rfl rfl Try.underlying2 rfl (fun w M => (mem_own1 (n := 4) M rfl).rd) (by omega) (by omega)) ?_
                    refine hK113 _ _ (fun w M => (mem_erase 1 (mem_erase 2 (mem_erase 4 (mem_take 5 M))) :)) ?_
                    refine ga_op 5 (by kernel_rfl) rfl (.free rfl) fun K121 hK121 => ?_
                    refine go_v rfl rfl (qt_load1 rfl rfl Try.underlying2 rfl (fun w M => (mem_own1 (n := 4) M rfl).rd) (by omega) (by omega)) ?_
                    refine hK121 _ _ (fun w M => (mem_erase 1 (mem_erase 2 (mem_erase 4 (mem_take 5 M))) :)) ?_
                    refine ga_op 10 (by kernel_rfl) rfl (.free rfl) fun K122 hK122 => ?_
                    refine go_q rfl rfl (qt_call rfl Try.func105 rfl (by decide) rfl (fun w M => then_any w _ _ _ _ (mem_rdC M h0) (by first | assumption | omega) (by first | assumption | omega) (by first | assumption | omega) (by first | assumption | omega))) ?_
                    refine hK122 _ _ (fun w M => (mem_erase 1 (mem_erase 2 (mem_erase 4 (mem_take 5 M))) :)) ?_
                    refine ga_op 11 (by kernel_rfl) rfl (.free rfl) fun K124 hK124 => ?_
                    refine go_clo 5 (L := [_, _, _, _, _]) (α := Option Addr) (β := Nat) rfl rfl rfl rfl Try.func158 rfl (by decide) rfl rfl rfl (fun w M => genAdd_any _ w _ _ _ _ _ _ _ _ _ _ _ (by first | exact hv.imp id (fun z => ⟨z.1, by omega⟩) | exact hw.imp id (fun z => ⟨z.1, by simp only [addB_len]; omega⟩) | (right; simp only [addB_len]; omega) | (right; omega)) (by first | (simp only [addB_len]; first | assumption | omega) | assumption | omega) (by first | omega | assumption) M) (fun _ _ => rfl) ?_
                    intro va123 vc123; simp only [List.take_succ_cons, List.take_zero, List.cons_append, List.nil_append]
                    refine hK124 _ _ (fun w M => (mem_erase 1 (mem_erase 2 (mem_erase 4 (mem_take 5 M))) :)) ?_
                    refine ga_done (by kernel_rfl) ?_
                    refine gk_pickL [0, 0, 0, 0, 0] ?_
                    refine gk_sub ?hs_125 (HJ47 (_, _))
                    case hs_125 => exact (sub_cons rfl (sub_cons rfl (sub_cons rfl (sub_cons rfl (sub_cons rfl (sub_cons rfl (sub_cons rfl (sub_cons rfl (sub_cons rfl (sub_cons rfl (sub_cons rfl (sub_cons rfl (sub_cons rfl (sub_cons rfl (sub_cons rfl sub_nil)))))))))))))))
                · refine go_v rfl rfl (qt_load1 rfl rfl Try.underlying2 rfl (fun w M => (mem_own1 (n := 4) M rfl).rd) (by omega) (by omega)) ?_
                  refine hK111 _ _ (fun w M => (mem_erase 1 (mem_erase 2 (mem_erase 4 (mem_take 5 M))) :)) ?_
                  refine ga_op 4 (by kernel_rfl) rfl (.free rfl) fun K127 hK127 => ?_
                  refine go_v rfl rfl (qt_index rfl rfl rfl ulE1 szE1 (fun w M => lenA_own1 (n := 4) rfl M) (by omega) (by omega)) ?_
                  refine hK127 _ _ (fun w M => (mem_erase 1 (mem_erase 2 (mem_erase 4 (mem_take 5 M))) :)) ?_
                  refine ga_op 5 (by kernel_rfl) rfl (.free rfl) fun K128 hK128 => ?_
                  refine go_v rfl rfl (qt_load1 rfl rfl Try.underlying2 rfl (fun w M => (mem_own1 (n := 4) M rfl).rd) (by omega) (by omega)) ?_
                  refine hK128 _ _ (fun w M => (mem_erase 1 (mem_erase 2 (mem_erase 4 (mem_take 5 M))) :)) ?_
                  refine ga_op 10 (by kernel_rfl) rfl (.free rfl) fun K129 hK129 => ?_
                  refine go_q rfl rfl (qt_call rfl Try.func105 rfl (by decide) rfl (fun w M => then_any w _ _ _ _ (mem_rdC M h0) (by first | assumption | omega) (by first | assumption | omega) (by first | assumption | omega) (by first | assumption | omega))) ?_
                  refine hK129 _ _ (fun w M => (mem_erase 1 (mem_erase 2 (mem_erase 4 (mem_take 5 M))) :)) ?_
                  refine ga_op 11 (by kernel_rfl) rfl (.free rfl) fun K131 hK131 => ?_
                  refine go_clo 5 (L := [_, _, _, _, _]) (α := Option Addr) (β := Nat) rfl rfl rfl rfl Try.func158 rfl (by decide) rfl rfl rfl (fun w M => genAdd_any _ w _ _ _ _ _ _ _ _ _ _ _ (by first | exact hv.imp id (fun z => ⟨z.1, by omega⟩) | exact hw.imp id (fun z => ⟨z.1, by simp only [addB_len]; omega⟩) | (right; simp only [addB_len]; omega) | (right; omega)) (by first | (simp only [addB_len]; first | assumption | omega) | assumption | omega) (by first | omega | assumption) M) (fun _ _ => rfl) ?_
                  intro va130 vc130; simp only [List.take_succ_cons, List.take_zero, List.cons_append, List.nil_append]
                  refine hK131 _ _ (fun w M => (mem_erase 1 (mem_erase 2 (mem_erase 4 (mem_take 5 M))) :)) ?_
                  refine ga_done (by kernel_rfl) ?_
                  refine gk_pickL [0, 0, 0, 0, 0] ?_
                  refine gk_sub ?hs_132 (HJ47 (_, _))
                  case hs_132 => exact (sub_cons rfl (sub_cons rfl (sub_cons rfl (sub_cons rfl (sub_cons rfl (sub_cons rfl (sub_cons rfl (sub_cons rfl (sub_cons rfl (sub_cons rfl (sub_cons rfl (sub_cons rfl (sub_cons rfl (sub_cons rfl (sub_cons rfl sub_nil)))))))))))))))
          · refine go_v rfl rfl (qt_loadB (n := 1) rfl rfl Try.underlying22 rfl rfl rfl) ?_
            refine hK49 _ _ (fun w M => (mem_erase 1 (mem_erase 2 (mem_erase 4 (mem_take 5 M))) :)) ?_
            refine ga_two 2 8 (by kernel_rfl) rfl rfl (.free rfl) (.free rfl) (fun K134 hK134 => ?_) (fun K134 hK134 => ?_)
            · refine go_v rfl rfl (qt_loadB (n := 1) rfl rfl Try.underlying22 rfl rfl rfl) ?_
              refine hK134 _ _ (fun w M => (mem_erase 1 (mem_erase 2 (mem_erase 4 (mem_take 5 M))) :)) ?_
              refine ga_two 4 8 (by kernel_rfl) rfl rfl (.free rfl) (.free rfl) (fun K136 hK136 => ?_) (fun K136 hK136 => ?_)
              · refine go_v rfl rfl (qt_index rfl rfl rfl ulE1 szE1 (fun w M => lenA_own1 (n := 4) rfl M) (by omega) (by omega)) ?_
                refine hK136 _ _ (fun w M => (mem_erase 1 (mem_erase 2 (mem_erase 4 (mem_take 5 M))) :)) ?_
                refine ga_two 5 8 (by kernel_rfl) rfl rfl (.free rfl) (.free rfl) (fun K138 hK138 => ?_) (fun K138 hK138 => ?_)
                · refine go_v rfl rfl (qt_load1 rfl rfl Try.underlying2 rfl (fun w M => (mem_own1 (n := 4) M rfl).rd) (by omega) (by omega)) ?_
                  refine hK138 _ _ (fun w M => (mem_erase 1 (mem_erase 2 (mem_erase 4 (mem_take 5 M))) :)) ?_
                  refine ga_op 8 (by kernel_rfl) rfl (.free rfl) fun K140 hK140 => ?_
                  refine go_v rfl rfl (qt_index rfl rfl rfl ulE1 szE1 (fun w M => lenA_own1 (n := 4) rfl M) (by omega) (by omega)) ?_
                  refine hK140 _ _ (fun w M => (mem_erase 1 (mem_erase 2 (mem_erase 4 (mem_take 5 M))) :)) ?_
                  refine ga_op 9 (by kernel_rfl) rfl (.free rfl) fun K141 hK141 => ?_
                  refine go_v rfl rfl (qt_load1 rfl rfl Try.underlying2 rfl (fun w M => (mem_own1 (n := 4) M rfl).rd) (by omega) (by omega)) ?_
                  refine hK141 _ _ (fun w M => (mem_erase 1 (mem_erase 2 (mem_erase 4 (mem_take 5 M))) :)) ?_
                  refine ga_op 10 (by kernel_rfl) rfl (.free rfl) fun K142 hK142 => ?_
                  refine go_q rfl rfl (qt_call rfl Try.func105 rfl (by decide) rfl (fun w M => then_any w _ _ _ _ (mem_rdC M h0) (by first | assumption | omega) (by first | assumption | omega) (by first | assumption | omega) (by first | assumption | omega))) ?_
                  refine hK142 _ _ (fun w M => (mem_erase 1 (mem_erase 2 (mem_erase 4 (mem_take 5 M))) :)) ?_
                  refine ga_op 11 (by kernel_rfl) rfl (.free rfl) fun K144 hK144 => ?_
                  refine go_clo 5 (L := [_, _, _, _, _]) (α := Option Addr) (β := Nat) rfl rfl rfl rfl Try.func158 rfl (by decide) rfl rfl rfl (fun w M => genAdd_any _ w _ _ _ _ _ _ _ _ _ _ _ (by first | exact hv.imp id (fun z => ⟨z.1, by omega⟩) | exact hw.imp id (fun z => ⟨z.1, by simp only [addB_len]; omega⟩) | (right; simp only [addB_len]; omega) | (right; omega)) (by first | (simp only [addB_len]; first | assumption | omega) | assumption | omega) (by first | omega | assumption) M) (fun _ _ => rfl) ?_
                  intro va143 vc143; simp only [List.take_succ_cons, List.take_zero, List.cons_append, List.nil_append]
                  refine hK144 _ _ (fun w M => (mem_erase 1 (mem_erase 2 (mem_erase 4 (mem_take 5 M))) :)) ?_
                  refine ga_done (by kernel_rfl) ?_
                  refine gk_pickL [0, 0, 0, 0, 0] ?_
                  refine gk_sub ?hs_145 (HJ47 (_, _))
                  case hs_145 => exact (sub_cons rfl (sub_cons rfl (sub_cons rfl (sub_cons rfl (sub_cons rfl (sub_cons rfl (sub_cons rfl (sub_cons rfl (sub_cons rfl (sub_cons rfl (sub_cons rfl (sub_cons rfl (sub_cons rfl (sub_cons rfl (sub_cons rfl sub_nil)))))))))))))))
                · refine go_v rfl rfl (qt_index rfl rfl rfl ulE1 szE1 (fun w M => lenA_own1 (n := 4) rfl M) (by omega) (by omega)) ?_
                  refine hK138 _ _ (fun w M => (mem_erase 1 (mem_erase 2 (mem_erase 4 (mem_take 5 M))) :)) ?_
                  refine ga_two 5 9 (by kernel_rfl) rfl rfl (.free rfl) (.free rfl) (fun K147 hK147 => ?_) (fun K147 hK147 => ?_)
                  · refine go_v rfl rfl (qt_load1 rfl rfl Try.underlying2 rfl (fun w M => (mem_own1 (n := 4) M rfl).rd) (by omega) (by omega)) ?_
                    refine hK147 _ _ (fun w M => (mem_erase 1 (mem_erase 2 (mem_erase 4 (mem_take 5 M))) :)) ?_
                    refine ga_op 9 (by kernel_rfl) rfl (.free rfl) fun K149 hK149 => ?_
                    refine go_v rfl rfl (qt_load1 rfl rfl Try.underlying2 rfl (fun w M => (mem_own1 (n := 4) M rfl).rd) (by omega) (by omega)) ?_
                    refine hK149 _ _ (fun w M => (mem_erase 1 (mem_erase 2 (mem_erase 4 (mem_take 5 M))) :)) ?_
                    refine ga_op 10 (by kernel_rfl) rfl (.free rfl) fun K150 hK150 => ?_
                    refine go_q rfl rfl (qt_call rfl Try.func105 rfl (by decide) rfl (fun w M => then_any w _ _ _ _ (mem_rdC M h0) (by first | assumption | omega) (by first | assumption | omega) (by first | assumption | omega) (by first | assumption | omega))) ?_
                    refine hK150 _ _ (fun w M => (mem_erase 1 (mem_erase 2 (mem_erase 4 (mem_take 5 M))) :)) ?_
                    refine ga_op 11 (by kernel_rfl) rfl (.free rfl) fun K152 hK152 => ?_
                    refine go_clo 5 (L := [_, _, _, _, _]) (α := Option Addr) (β := Nat) rfl rfl rfl rfl Try.func158 rfl (by decide) rfl rfl rfl (fun w M => genAdd_any _ w _ _ _ _ _ _ _ _ _ _ _ (by first | exact hv.imp id (fun z => ⟨z.1, by omega⟩) | exact hw.imp id (fun z => ⟨z.1, by simp only [addB_len]; omega⟩) | (right; simp only [addB_len]; omega) | (right; omega)) (by first | (simp only [addB_len]; first | assumption | omega) | assumption | omega) (by first | omega | assumption) M) (fun _ _ => rfl) ?_
                    intro va151 vc151; simp only [List.take_succ_cons, List.take_zero, List.cons_append, List.nil_append]
                    refine hK152 _ _ (fun w M => (mem_erase 1 (mem_erase 2 (mem_erase 4 (mem_take 5 M))) :)) ?_
                    refine ga_done (by kernel_rfl) ?_
                    refine gk_pickL [0, 0, 0, 0, 0] ?_
                    refine gk_sub ?hs_153 (HJ47 (_, _))
                    case hs_153 => exact (sub_cons rfl (sub_cons rfl (sub_cons rfl (sub_cons rfl (sub_cons rfl (sub_cons rfl (sub_cons rfl (sub_cons rfl (sub_cons rfl (sub_cons rfl (sub_cons rfl (sub_cons rfl (sub_cons rfl (sub_cons rfl (sub_cons rfl sub_nil)))))))))))))))
                  · refine go_v rfl rfl (qt_load1 rfl rfl Try.underlying2 rfl (fun w M => (mem_own1 (n := 4) M rfl).rd) (by omega) (by omega)) ?_
                    refine hK147 _ _ (fun w M => (mem_erase 1 (mem_erase 2 (mem_erase 4 (mem_take 5 M))) :)) ?_
                    refine ga_op 5 (by kernel_rfl) rfl (.free rfl) fun K155 hK155 => ?_
                    refine go_v rfl rfl (qt_load1 rfl rfl Try.underlying2 rfl (fun w M => (mem_own1 (n := 4) M rfl).rd) (by omega) (by omega)) ?_
                    refine hK155 _ _ (fun w M => (mem_erase 1 (mem_erase 2 (mem_erase 4 (mem_take 5 M))) :)) ?_
                    refine ga_op 10 (by kernel_rfl) rfl (.free rfl) fun K156 hK156 => ?_
                    refine go_q rfl rfl (qt_call rfl Try.func105 rfl (by decide) rfl (fun w M => then_any w _ _ _ _ (mem_rdC M h0) (by first | assumption | omega) (by first | assumption | omega) (by first | assumption | omega) (by first | assumption | omega))) ?_
                    refine hK156 _ _ (fun w M => (mem_erase 1 (mem_erase 2 (mem_erase 4 (mem_take 5 M))) :)) ?_
                    refine ga_op 11 (by kernel_rfl) rfl (.free rfl) fun K158 hK158 => ?_
                    refine go_clo 5 (L := [_, _, _, _, _]) (α := Option Addr) (β := Nat) rfl rfl rfl rfl Try.func158 rfl (by decide) rfl rfl rfl (fun w M => genAdd_any _ w _ _ _ _ _ _ _ _ _ _ _ (by first | exact hv.imp id (fun z => ⟨z.1, by omega⟩) | exact hw.imp id (fun z => ⟨z.1, by simp only [addB_len]; omega⟩) | (right; simp only [addB_len]; omega) | (right; omega)) (by first | (simp only [addB_len]; first | assumption | omega) | assumption | omega) (by first | omega | assumption) M) (fun _ _ => rfl) ?_
                    intro va157 vc157; simp only [List.take_succ_cons, List.take_zero, List.cons_append, List.nil_append]
                    refine hK158 _ _ (fun w M => (mem_erase 1 (mem_erase 2 (mem_erase 4 (mem_take 5 M))) :)) ?_
                    refine ga_done (by kernel_rfl) ?_
                    refine gk_pickL [0, 0, 0, 0, 0] ?_
                    refine gk_sub ?hs_159 (HJ47 (_, _))
                    case hs_159 => exact (sub_cons rfl (sub_cons rfl (sub_cons rfl (sub_cons rfl (sub_cons rfl (sub_cons rfl (sub_cons rfl (sub_cons rfl (sub_cons rfl (sub_cons rfl (sub_cons rfl (sub_cons rfl (sub_cons rfl (sub_cons rfl (sub_cons rfl sub_nil)))))))))))))))
              · refine go_v rfl rfl (qt_index rfl rfl rfl ulE1 szE1 (fun w M => lenA_own1 (n := 4) rfl M) (by omega) (by omega)) ?_
                refine hK136 _ _ (fun w M => (mem_erase 1 (mem_erase 2 (mem_erase 4 (mem_take 5 M))) :)) ?_
                refine ga_two 4 9 (by kernel_rfl) rfl rfl (.free rfl) (.free rfl) (fun K161 hK161 => ?_) (fun K161 hK161 => ?_)
                · refine go_v rfl rfl (qt_index rfl rfl rfl ulE1 szE1 (fun w M => lenA_own1 (n := 4) rfl M) (by omega) (by omega)) ?_
                  refine hK161 _ _ (fun w M => (mem_erase 1 (mem_erase 2 (mem_erase 4 (mem_take 5 M))) :)) ?_
                  refine ga_two 5 9 (by kernel_rfl) rfl rfl (.free rfl) (.free rfl) (fun K163 hK163 => ?_) (fun K163 hK163 => ?_)
                  · refine go_v rfl rfl (qt_load1 rfl rfl Try.underlying2 rfl (fun w M => (mem_own1 (n := 4) M rfl).rd) (by omega) (by omega)) ?_
                    refine hK163 _ _ (fun w M => (mem_erase 1 (mem_erase 2 (mem_erase 4 (mem_take 5 M))) :)) ?_
                    refine ga_op 9 (by kernel_rfl) rfl (.free rfl) fun K165 hK165 => ?_
                    refine go_v rfl rfl (qt_load1 rfl rfl Try.underlying2 rfl (fun w M => (mem_own1 (n := 4) M rfl).rd) (by omega) (by omega)) ?_
                    refine hK165 _ _ (fun w M => (mem_erase 1 (mem_erase 2 (mem_erase 4 (mem_take 5 M))) :)) ?_
                    refine ga_op 10 (by kernel_rfl) rfl (.free rfl) fun K166 hK166 => ?_
                    refine go_q rfl rfl (qt_call rfl Try.func105 rfl (by decide) rfl (fun w M => then_any w _ _ _ _ (mem_rdC M h0) (by first | assumption | omega) (by first | assumption | omega) (by first | assumption | omega) (by first | assumption | omega))) ?_
                    refine hK166 _ _ (fun w M => (mem_erase 1 (mem_erase 2 (mem_erase 4 (mem_take 5 M))) :)) ?_
                    refine ga_op 11 (by kernel_rfl) rfl (.free rfl) fun K168 hK168 => ?_
                    refine go_clo 5 (L := [_, _, _, _, _]) (α := Option Addr) (β := Nat) rfl rfl rfl rfl Try.func158 rfl (by decide) rfl rfl rfl (fun w M => genAdd_any _ w _ _ _ _ _ _ _ _ _ _ _ (by first | exact hv.imp id (fun z => ⟨z.1, by omega⟩) | exact hw.imp id (fun z => ⟨z.1, by simp only [addB_len]; omega⟩) | (right; simp only [addB_len]; omega) | (right; omega)) (by first | (simp only [addB_len]; first | assumption | omega) | assumption | omega) (by first | omega | assumption) M) (fun _ _ => rfl) ?_
                    intro va167 vc167; simp only [List.take_succ_cons, List.take_zero, List.cons_append, List.nil_append]
                    refine hK168 _ _ (fun w M => (mem_erase 1 (mem_erase 2 (mem_erase 4 (mem_take 5 M))) :)) ?_
                    refine ga_done (by kernel_rfl) ?_
                    refine gk_pickL [0, 0, 0, 0, 0] ?_
                    refine gk_sub ?hs_169 (HJ47 (_, _))
                    case hs_169 => exact (sub_cons rfl (sub_cons rfl (sub_cons rfl (sub_cons rfl (sub_cons rfl (sub_cons rfl (sub_cons rfl (sub_cons rfl (sub_cons rfl (sub_cons rfl (sub_cons rfl (sub_cons rfl (sub_cons rfl (sub_cons rfl (sub_cons rfl sub_nil)))))))))))))))
                  · refine go_v rfl rfl (qt_load1 rfl rfl Try.underlying2 rfl (fun w M => (mem_own1 (n := 4) M rfl).rd) (by omega) (by omega)) ?_
                    refine hK163 _ _ (fun w M => (mem_erase 1 (mem_erase 2 (mem_erase 4 (mem_take 5 M))) :)) ?_
                    refine ga_op 5 (by kernel_rfl) rfl (.free rfl) fun K171 hK171 => ?_
                    refine go_v rfl rfl (qt_load1 rfl rfl Try.underlying2 rfl (fun w M => (mem_own1 (n := 4) M rfl).rd) (by omega) (by omega)) ?_
                    refine hK171 _ _ (fun w M => (mem_erase 1 (mem_erase 2 (mem_erase 4 (mem_take 5 M))) :)) ?_
                    refine ga_op 10 (by kernel_rfl) rfl (.free rfl) fun K172 hK172 => ?_
                    refine go_q rfl rfl (qt_call rfl Try.func105 rfl (by decide) rfl (fun w M => then_any w _ _ _ _ (mem_rdC M h0) (by first | assumption | omega) (by first | assumption | omega) (by first | assumption | omega) (by first | assumption | omega))) ?_
                    refine hK172 _ _ (fun w M => (mem_erase 1 (mem_erase 2 (mem_erase 4 (mem_take 5 M))) :)) ?_
                    refine ga_op 11 (by kernel_rfl) rfl (.free rfl) fun K174 hK174 => ?_
                    refine go_clo 5 (L := [_, _, _, _, _]) (α := Option Addr) (β := Nat) rfl rfl rfl rfl Try.func158 rfl (by decide) rfl rfl rfl (fun w M => genAdd_any _ w _ _ _ _ _ _ _ _ _ _ _ (by first | exact hv.imp id (fun z => ⟨z.1, by omega⟩) | exact hw.imp id (fun z => ⟨z.1, by simp only [addB_len]; omega⟩) | (right; simp only [addB_len]; omega) | (right; omega)) (by first | (simp only [addB_len]; first | assumption | omega) | assumption | omega) (by first | omega | assumption) M) (fun _ _ => rfl) ?_
                    intro va173 vc173; simp only [List.take_succ_cons, List.take_zero, List.cons_append, List.nil_append]
                    refine hK174 _ _ (fun w M => (mem_erase 1 (mem_erase 2 (mem_erase 4 (mem_take 5 M))) :)) ?_
                    refine ga_done (by kernel_rfl) ?_
                    refine gk_pickL [0, 0, 0, 0, 0] ?_
                    refine gk_sub ?hs_175 (HJ47 (_, _))
                    case hs_175 => exact (sub_cons rfl (sub_cons rfl (sub_cons rfl (sub_cons rfl (sub_cons rfl (sub_cons rfl (sub_cons rfl (sub_cons rfl (sub_cons rfl (sub_cons rfl (sub_cons rfl (sub_cons rfl (sub_cons rfl (sub_cons rfl (sub_cons rfl sub_nil)))))))))))))))
                · refine go_v rfl rfl (qt_load1 rfl rfl Try.underlying2 rfl (fun w M => (mem_own1 (n := 4) M rfl).rd) (by omega) (by omega)) ?_
                  refine hK161 _ _ (fun w M => (mem_erase 1 (mem_erase 2 (mem_erase 4 (mem_take 5 M))) :)) ?_
                  refine ga_op 4 (by kernel_rfl) rfl (.free rfl) fun K177 hK177 => ?_
                  refine go_v rfl rfl (qt_index rfl rfl rfl ulE1 szE1 (fun w M => lenA_own1 (n := 4) rfl M) (by omega) (by omega)) ?_
                  refine hK177 _ _ (fun w M => (mem_erase 1 (mem_erase 2 (mem_erase 4 (mem_take 5 M))) :)) ?_
                  refine ga_op 5 (by kernel_rfl) rfl (.free rfl) fun K178 hK178 => ?_
                  refine go_v rfl rfl (qt_load1 rfl rfl Try.underlying2 rfl (fun w M => (mem_own1 (n := 4) M rfl).rd) (by omega) (by omega)) ?_
                  refine hK178 _ _ (fun w M => (mem_erase 1 (mem_erase 2 (mem_erase 4 (mem_take 5 M))) :)) ?_
                  refine ga_op 10 (by kernel_rfl) rfl (.free rfl) fun K179 hK179 => ?_
                  refine go_q rfl rfl (qt_call rfl Try.func105 rfl (by decide) rfl (fun w M => then_any w _ _ _ _ (mem_rdC M h0) (by first | assumption | omega) (by first | assumption | omega) (by first | assumption | omega) (by first | assumption | omega))) ?_
                  refine hK179 _ _ (fun w M => (mem_erase 1 (mem_erase 2 (mem_erase 4 (mem_take 5 M))) :)) ?_
                  refine ga_op 11 (by kernel_rfl) rfl (.free rfl) fun K181 hK181 => ?_
                  refine go_clo 5 (L := [_, _, _, _, _]) (α := Option Addr) (β := Nat) rfl rfl rfl rfl Try.func158 rfl (by decide) rfl rfl rfl (fun w M => genAdd_any _ w _ _ _ _ _ _ _ _ _ _ _ (by first | exact hv.imp id (fun z => ⟨z.1, by omega⟩) | exact hw.imp id (fun z => ⟨z.1, by simp only [addB_len]; omega⟩) | (right; simp only [addB_len]; omega) | (right; omega)) (by first | (simp only [addB_len]; first | assumption | omega) | assumption | omega) (by first | omega | assumption) M) (fun _ _ => rfl) ?_
                  intro va180 vc180; simp only [List.take_succ_cons, List.take_zero, List.cons_append, List.nil_append]
                  refine hK181 _ _ (fun w M => (mem_erase 1 (mem_erase 2 (mem_erase 4 (mem_take 5 M))) :)) ?_
                  refine ga_done (by kernel_rfl) ?_
                  refine gk_pickL [0, 0, 0, 0, 0] ?_
                  refine gk_sub ?hs_182 (HJ47 (_, _))
                  case hs_182 => exact (sub_cons rfl (sub_cons rfl (sub_cons rfl (sub_cons rfl (sub_cons rfl (sub_cons rfl (sub_cons rfl (sub_cons rfl (sub_cons rfl (sub_cons rfl (sub_cons rfl (sub_cons rfl (sub_cons rfl (sub_cons rfl (sub_cons rfl sub_nil)))))))))))))))
            · refine go_v rfl rfl (qt_index rfl rfl rfl ulE1 szE1 (fun w M => lenA_own1 (n := 4) rfl M) (by omega) (by omega)) ?_
              refine hK134 _ _ (fun w M => (mem_erase 1 (mem_erase 2 (mem_erase 4 (mem_take 5 M))) :)) ?_
              refine ga_two 2 9 (by kernel_rfl) rfl rfl (.free rfl) (.free rfl) (fun K184 hK184 => ?_) (fun K184 hK184 => ?_)
              · refine go_v rfl rfl (qt_loadB (n := 1) rfl rfl Try.underlying22 rfl rfl rfl) ?_
                refine hK184 _ _ (fun w M => (mem_erase 1 (mem_erase 2 (mem_erase 4 (mem_take 5 M))) :)) ?_
                refine ga_two 4 9 (by kernel_rfl) rfl rfl (.free rfl) (.free rfl) (fun K186 hK186 => ?_) (fun K186 hK186 => ?_)
                · refine go_v rfl rfl (qt_index rfl rfl rfl ulE1 szE1 (fun w M => lenA_own1 (n := 4) rfl M) (by omega) (by omega)) ?_
                  refine hK186 _ _ (fun w M => (mem_erase 1 (mem_erase 2 (mem_erase 4 (mem_take 5 M))) :)) ?_
                  refine ga_two 5 9 (by kernel_rfl) rfl rfl (.free rfl) (.free rfl) (fun K188 hK188 => ?_) (fun K188 hK188 => ?_)
                  · refine go_v rfl rfl (qt_load1 rfl rfl Try.underlying2 rfl (fun w M => (mem_own1 (n := 4) M rfl).rd) (by omega) (by omega)) ?_
                    refine hK188 _ _ (fun w M => (mem_erase 1 (mem_erase 2 (mem_erase 4 (mem_take 5 M))) :)) ?_
                    refine ga_op 9 (by kernel_rfl) rfl (.free rfl) fun K190 hK190 => ?_
                    refine go_v rfl rfl (qt_load1 rfl rfl Try.underlying2 rfl (fun w M => (mem_own1 (n := 4) M rfl).rd) (by omega) (by omega)) ?_
                    refine hK190 _ _ (fun w M => (mem_erase 1 (mem_erase 2 (mem_erase 4 (mem_take 5 M))) :)) ?_
                    refine ga_op 10 (by kernel_rfl) rfl (.free rfl) fun K191 hK191 => ?_
                    refine go_q rfl rfl (qt_call rfl Try.func105 rfl (by decide) rfl (fun w M => then_any w _ _ _ _ (mem_rdC M h0) (by first | assumption | omega) (by first | assumption | omega) (by first | assumption | omega) (by first | assumption | omega))) ?_
                    refine hK191 _ _ (fun w M => (mem_erase 1 (mem_erase 2 (mem_erase 4 (mem_take 5 M))) :)) ?_
                    refine ga_op 11 (by kernel_rfl) rfl (.free rfl) fun K193 hK193 => ?_
                    refine go_clo 5 (L := [_, _, _, _, _]) (α := Option Addr) (β := Nat) rfl rfl rfl rfl Try.func158 rfl (by decide) rfl rfl rfl (fun w M => genAdd_any _ w _ _ _ _ _ _ _ _ _ _ _ (by first | exact hv.imp id (fun z => ⟨z.1, by omega⟩) | exact hw.imp id (fun z => ⟨z.1, by simp only [addB_len]; omega⟩) | (right; simp only [addB_len]; omega) | (right; omega)) (by first | (simp only [addB_len]; first | assumption | omega) | assumption | omega) (by first | omega | assumption) M) (fun _ _ => rfl) ?_
                    intro va192 vc192; simp only [List.take_succ_cons, List.take_zero, List.cons_append, List.nil_append]
                    refine hK193 _ _ (fun w M => (mem_erase 1 (mem_erase 2 (mem_erase 4 (mem_take 5 M))) :)) ?_
                    refine ga_done (by kernel_rfl) ?_
                    refine gk_pickL [0, 0, 0, 0, 0] ?_
                    refine gk_sub ?hs_194 (HJ47 (_, _))
                    case hs_194 => exact (sub_cons rfl (sub_cons rfl (sub_cons rfl (sub_cons rfl (sub_cons rfl (sub_cons rfl (sub_cons rfl (sub_cons rfl (sub_cons rfl (sub_cons rfl (sub_cons rfl (sub_cons rfl (sub_cons rfl (sub_cons rfl (sub_cons rfl sub_nil)))))))))))))))
                  · refine go_v rfl rfl (qt_load1 rfl rfl Try.underlying2 rfl (fun w M => (mem_own1 (n := 4) M rfl).rd) (by omega) (by omega)) ?_
                    refine hK188 _ _ (fun w M => (mem_erase 1 (mem_erase 2 (mem_erase 4 (mem_take 5 M))) :)) ?_
                    refine ga_op 5 (by kernel_rfl) rfl (.free rfl) fun K196 hK196 => ?_
                    refine go_v rfl rfl (qt_load1 rfl rfl Try.underlying2 rfl (fun w M => (mem_own1 (n := 4) M rfl).rd) (by omega) (by omega)) ?_
                    refine hK196 _ _ (fun w M => (mem_erase 1 (mem_erase 2 (mem_erase 4 (mem_take 5 M))) :)) ?_
                    refine ga_op 10 (by kernel_rfl) rfl (.free rfl) fun K197 hK197 => ?_
                    refine go_q rfl rfl (qt_call rfl Try.func105 rfl (by decide) rfl (fun w M => then_any w _ _ _ _ (mem_rdC M h0) (by first | assumption | omega) (by first | assumption | omega) (by first | assumption | omega) (by first | assumption | omega))) ?_
                    refine hK197 _ _ (fun w M => (mem_erase 1 (mem_erase 2 (mem_erase 4 (mem_take 5 M))) :)) ?_
                    refine ga_op 11 (by kernel_rfl) rfl (.free rfl) fun K199 hK199 => ?_
                    refine go_clo 5 (L := [_, _, _, _, _]) (α := Option Addr) (β := Nat) rfl rfl rfl rfl Try.func158 rfl (by decide) rfl rfl rfl (fun w M => genAdd_any _ w _ _ _ _ _ _ _ _ _ _ _ (by first | exact hv.imp id (fun z => ⟨z.1, by omega⟩) | exact hw.imp id (fun z => ⟨z.1, by simp only [addB_len]; omega⟩) | (right; simp only [addB_len]; omega) | (right; omega)) (by first | (simp only [addB_len]; first | assumption | omega) | assumption | omega) (by first | omega | assumption) M) (fun _ _ => rfl) ?_
                    intro va198 vc198; simp only [List.take_succ_cons, List.take_zero, List.cons_append, List.nil_append]
                    refine hK199 _ _ (fun w M => (mem_erase 1 (mem_erase 2 (mem_erase 4 (mem_take 5 M))) :)) ?_
                    refine ga_done (by kernel_rfl) ?_
                    refine gk_pickL [0, 0, 0, 0, 0] ?_
                    refine gk_sub ?hs_200 (HJ47 (_, _))
                    case hs_200 => exact (sub_cons rfl (sub_cons rfl (sub_cons rfl (sub_cons rfl (sub_cons rfl (sub_cons rfl (sub_cons rfl (sub_cons rfl (sub_cons rfl (sub_cons rfl (sub_cons rfl (sub_cons rfl (sub_cons rfl (sub_cons rfl (sub_cons rfl sub_nil)))))))))))))))
                · refine go_v rfl rfl (qt_load1 rfl rfl Try.underlying2 rfl (fun w M => (mem_own1 (n := 4) M rfl).rd) (by omega) (by omega)) ?_
                  refine hK186 _ _ (fun w M => (mem_erase 1 (mem_erase 2 (mem_erase 4 (mem_take 5 M))) :)) ?_
                  refine ga_op 4 (by kernel_rfl) rfl (.free rfl) fun K202 hK202 => ?_
                  refine go_v rfl rfl (qt_index rfl rfl rfl ulE1 szE1 (fun w M => lenA_own1 (n := 4) rfl M) (by omega) (by omega)) ?_
                  refine hK202 _ _ (fun w M => (mem_erase 1 (mem_erase 2 (mem_erase 4 (mem_take 5 M))) :)) ?_
                  refine ga_op 5 (by kernel_rfl) rfl (.free rfl) fun K203 hK203 => ?_
                  refine go_v rfl rfl (qt_load1 rfl rfl Try.underlying2 rfl (fun w M => (mem_own1 (n := 4) M rfl).rd) (by omega) (by omega)) ?_
                  refine hK203 _ _ (fun w M => (mem_erase 1 (mem_erase 2 (mem_erase 4 (mem_take 5 M))) :)) ?_
                  refine ga_op 10 (by kernel_rfl) rfl (.free rfl) fun K204 hK204 => ?_
                  refine go_q rfl rfl (qt_call rfl Try.func105 rfl (by decide) rfl (fun w M => then_any w _ _ _ _ (mem_rdC M h0) (by first | assumption | omega) (by first | assumption | omega) (by first | assumption | omega) (by first | assumption | omega))) ?_
                  refine hK204 _ _ (fun w M => (mem_erase 1 (mem_erase 2 (mem_erase 4 (mem_take 5 M))) :)) ?_
                  refine ga_op 11 (by kernel_rfl) rfl (.free rfl) fun K206 hK206 => ?_
                  refine go_clo 5 (L := [_, _, _, _, _]) (α := Option Addr) (β := Nat) rfl rfl rfl rfl Try.func158 rfl (by decide) rfl rfl rfl (fun w M => genAdd_any _ w _ _ _ _ _ _ _ _ _ _ _ (by first | exact hv.imp id (fun z => ⟨z.1, by omega⟩) | exact hw.imp id (fun z => ⟨z.1, by simp only [addB_len]; omega⟩) | (right; simp only [addB_len]; omega) | (right; omega)) (by first | (simp only [addB_len]; first | assumption | omega) | assumption | omega) (by first | omega | assumption) M) (fun _ _ => rfl) ?_
                  intro va205 vc205; simp only [List.take_succ_cons, List.take_zero, List.cons_append, List.nil_append]
                  refine hK206 _ _ (fun w M => (mem_erase 1 (mem_erase 2 (mem_erase 4 (mem_take 5 M))) :)) ?_
                  refine ga_done (by kernel_rfl) ?_
                  refine gk_pickL [0, 0, 0, 0, 0] ?_
                  refine gk_sub ?hs_207 (HJ47 (_, _))
                  case hs_207 => exact (sub_cons rfl (sub_cons rfl (sub_cons rfl (sub_cons rfl (sub_cons rfl (sub_cons rfl (sub_cons rfl (sub_cons rfl (sub_cons rfl (sub_cons rfl (sub_cons rfl (sub_cons rfl (sub_cons rfl (sub_cons rfl (sub_cons rfl sub_nil)))))))))))))))
              · refine go_v rfl rfl (qt_load1 rfl rfl Try.underlying2 rfl (fun w M => (mem_own1 (n := 4) M rfl).rd) (by omega) (by omega)) ?_
                refine hK184 _ _ (fun w M => (mem_erase 1 (mem_erase 2 (mem_erase 4 (mem_take 5 M))) :)) ?_
                refine ga_op 2 (by kernel_rfl) rfl (.free rfl) fun K209 hK209 => ?_
                refine go_v rfl rfl (qt_loadB (n := 1) rfl rfl Try.underlying22 rfl rfl rfl) ?_
                refine hK209 _ _ (fun w M => (mem_erase 1 (mem_erase 2 (mem_erase 4 (mem_take 5 M))) :)) ?_
                refine ga_op 4 (by kernel_rfl) rfl (.free rfl) fun K210 hK210 => ?_
                refine go_v rfl rfl (qt_index rfl rfl rfl ulE1 szE1 (fun w M => lenA_own1 (n := 4) rfl M) (by omega) (by omega)) ?_
                refine hK210 _ _ (fun w M => (mem_erase 1 (mem_erase 2 (mem_erase 4 (mem_take 5 M))) :)) ?_
                refine ga_op 5 (by kernel_rfl) rfl (.free rfl) fun K211 hK211 => ?_
                refine go_v rfl rfl (qt_load1 rfl rfl Try.underlying2 rfl (fun w M => (mem_own1 (n := 4) M rfl).rd) (by omega) (by omega)) ?_
                refine hK211 _ _ (fun w M => (mem_erase 1 (mem_erase 2 (mem_erase 4 (mem_take 5 M))) :)) ?_
                refine ga_op 10 (by kernel_rfl) rfl (.free rfl) fun K212 hK212 => ?_
                refine go_q rfl rfl (qt_call rfl Try.func105 rfl (by decide) rfl (fun w M => then_any w _ _ _ _ (mem_rdC M h0) (by first | assumption | omega) (by first | assumption | omega) (by first | assumption | omega) (by first | assumption | omega))) ?_
                refine hK212 _ _ (fun w M => (mem_erase 1 (mem_erase 2 (mem_erase 4 (mem_take 5 M))) :)) ?_
                refine ga_op 11 (by kernel_rfl) rfl (.free rfl) fun K214 hK214 => ?_
                refine go_clo 5 (L := [_, _, _, _, _]) (α := Option Addr) (β := Nat) rfl rfl rfl rfl Try.func158 rfl (by decide) rfl rfl rfl (fun w M => genAdd_any _ w _ _ _ _ _ _ _ _ _ _ _ (by first | exact hv.imp id (fun z => ⟨z.1, by omega⟩) | exact hw.imp id (fun z => ⟨z.1, by simp only [addB_len]; omega⟩) | (right; simp only [addB_len]; omega) | (right; omega)) (by first | (simp only [addB_len]; first | assumption | omega) | assumption | omega) (by first | omega | assumption) M) (fun _ _ => rfl) ?_
                intro va213 vc213; simp only [List.take_succ_cons, List.take_zero, List.cons_append, List.nil_append]
                refine hK214 _ _ (fun w M => (mem_erase 1 (mem_erase 2 (mem_erase 4 (mem_take 5 M))) :)) ?_
                refine ga_done (by kernel_rfl) ?_
                refine gk_pickL [0, 0, 0, 0, 0] ?_
                refine gk_sub ?hs_215 (HJ47 (_, _))
                case hs_215 => exact (sub_cons rfl (sub_cons rfl (sub_cons rfl (sub_cons rfl (sub_cons rfl (sub_cons rfl (sub_cons rfl (sub_cons rfl (sub_cons rfl (sub_cons rfl (sub_cons rfl (sub_cons rfl (sub_cons rfl (sub_cons rfl (sub_cons rfl sub_nil)))))))))))))))
        simp only [updL, List.foldl_cons, List.foldl_nil, List.set_cons_succ, List.set_cons_zero, List.cons_append, List.nil_append] at HJ46
        refine ga_start _ (fun w M => mem_erase 1 (mem_erase 2 (mem_erase 4 (M)))) ?_
        refine ga_v 0 rfl (by kernel_rfl) (by kernel_rfl) (by kernel_rfl) (.free rfl) rfl rfl (qt_move rfl rfl) (fun _ _ _ h => h) ?_
        refine ga_v 1 rfl (by kernel_rfl) (by kernel_rfl) (by kernel_rfl) (.free rfl) rfl rfl (qt_loadS (n := 0) rfl rfl Try.underlying30 rfl (by kernel_rfl) rfl) (fun _ _ _ h => h) ?_
        refine ga_v 3 rfl (by kernel_rfl) (by kernel_rfl) (by kernel_rfl) (.free rfl) rfl rfl (qt_move rfl rfl) (fun _ _ _ h => h) ?_
        refine ga_v 7 rfl (by kernel_rfl) (by kernel_rfl) (by kernel_rfl) (.free rfl) rfl rfl (qt_move rfl rfl) (fun _ _ _ h => h) ?_
        refine ga_two 2 6 (by kernel_rfl) rfl rfl (.free rfl) (.free rfl) (fun K216 hK216 => ?_) (fun K216 hK216 => ?_)
        · refine go_v rfl rfl (qt_loadB (n := 1) rfl rfl Try.underlying22 rfl rfl rfl) ?_
          refine hK216 _ _ (fun w M => (mem_erase 1 (mem_erase 2 (mem_erase 4 (mem_take 5 M))) :)) ?_
          refine ga_two 4 6 (by kernel_rfl) rfl rfl (.free rfl) (.free rfl) (fun K218 hK218 => ?_) (fun K218 hK218 => ?_)
          · refine go_v rfl rfl (qt_index rfl rfl rfl ulE1 szE1 (fun w M => lenA_own1 (n := 4) rfl M) (by omega) (by omega)) ?_
            refine hK218 _ _ (fun w M => (mem_erase 1 (mem_erase 2 (mem_erase 4 (mem_take 5 M))) :)) ?_
            refine ga_two 5 6 (by kernel_rfl) rfl rfl (.free rfl) (.free rfl) (fun K220 hK220 => ?_) (fun K220 hK220 => ?_)
            · refine go_v rfl rfl (qt_load1 rfl rfl Try.underlying2 rfl (fun w M => (mem_own1 (n := 4) M rfl).rd) (by omega) (by omega)) ?_
              refine hK220 _ _ (fun w M => (mem_erase 1 (mem_erase 2 (mem_erase 4 (mem_take 5 M))) :)) ?_
              refine ga_op 6 (by kernel_rfl) rfl (.free rfl) fun K222 hK222 => ?_
              refine go_v rfl rfl (qt_loadB (n := 1) rfl rfl Try.underlying22 rfl rfl rfl) ?_
              refine hK222 _ _ (fun w M => (mem_erase 1 (mem_erase 2 (mem_erase 4 (mem_take 5 M))) :)) ?_
              refine ga_op 8 (by kernel_rfl) rfl (.free rfl) fun K223 hK223 => ?_
              refine go_v rfl rfl (qt_index rfl rfl rfl ulE1 szE1 (fun w M => lenA_own1 (n := 4) rfl M) (by omega) (by omega)) ?_
              refine hK223 _ _ (fun w M => (mem_erase 1 (mem_erase 2 (mem_erase 4 (mem_take 5 M))) :)) ?_
              refine ga_op 9 (by kernel_rfl) rfl (.free rfl) fun K224 hK224 => ?_
              refine go_v rfl rfl (qt_load1 rfl rfl Try.underlying2 rfl (fun w M => (mem_own1 (n := 4) M rfl).rd) (by omega) (by omega)) ?_
              refine hK224 _ _ (fun w M => (mem_erase 1 (mem_erase 2 (mem_erase 4 (mem_take 5 M))) :)) ?_
              refine ga_op 10 (by kernel_rfl) rfl (.free rfl) fun K225 hK225 => ?_
              refine go_q rfl rfl (qt_call rfl Try.func105 rfl (by decide) rfl (fun w M => then_any w _ _ _ _ (mem_rdC M h0) (by first | assumption | omega) (by first | assumption | omega) (by first | assumption | omega) (by first | assumption | omega))) ?_
              refine hK225 _ _ (fun w M => (mem_erase 1 (mem_erase 2 (mem_erase 4 (mem_take 5 M))) :)) ?_
              refine ga_op 11 (by kernel_rfl) rfl (.free rfl) fun K227 hK227 => ?_
              refine go_clo 5 (L := [_, _, _, _, _]) (α := Option Addr) (β := Nat) rfl rfl rfl rfl Try.func158 rfl (by decide) rfl rfl rfl (fun w M => genAdd_any _ w _ _ _ _ _ _ _ _ _ _ _ (by first | exact hv.imp id (fun z => ⟨z.1, by omega⟩) | exact hw.imp id (fun z => ⟨z.1, by simp only [addB_len]; omega⟩) | (right; simp only [addB_len]; omega) | (right; omega)) (by first | (simp only [addB_len]; first | assumption | omega) | assumption | omega) (by first | omega | assumption) M) (fun _ _ => rfl) ?_
              intro va226 vc226; simp only [List.take_succ_cons, List.take_zero, List.cons_append, List.nil_append]
              refine hK227 _ _ (fun w M => (mem_erase 1 (mem_erase 2 (mem_erase 4 (mem_take 5 M))) :)) ?_
              refine ga_done (by kernel_rfl) ?_
              refine gk_pickL [0, 0, 0, 0, 0] ?_
              refine gk_sub ?hs_228 (HJ46 (_, _))
              case hs_228 => exact (sub_cons rfl (sub_cons rfl (sub_cons rfl (sub_cons rfl (sub_cons rfl (sub_cons rfl (sub_cons rfl (sub_cons rfl (sub_cons rfl (sub_cons rfl (sub_cons rfl (sub_cons rfl (sub_cons rfl (sub_cons rfl (sub_cons rfl sub_nil)))))))))))))))
            · refine go_v rfl rfl (qt_loadB (n := 1) rfl rfl Try.underlying22 rfl rfl rfl) ?_
              refine hK220 _ _ (fun w M => (mem_erase 1 (mem_erase 2 (mem_erase 4 (mem_take 5 M))) :)) ?_
              refine ga_two 5 8 (by kernel_rfl) rfl rfl (.free rfl) (.free rfl) (fun K230 hK230 => ?_) (fun K230 hK230 => ?_)
              · refine go_v rfl rfl (qt_load1 rfl rfl Try.underlying2 rfl (fun w M => (mem_own1 (n := 4) M rfl).rd) (by omega) (by omega)) ?_
                refine hK230 _ _ (fun w M => (mem_erase 1 (mem_erase 2 (mem_erase 4 (mem_take 5 M))) :)) ?_
                refine ga_op 8 (by kernel_rfl) rfl (.free rfl) fun K232 hK232 => ?_
                refine go_v rfl rfl (qt_index rfl rfl rfl ulE1 szE1 (fun w M => lenA_own1 (n := 4) rfl M) (by omega) (by omega)) ?_
                refine hK232 _ _ (fun w M => (mem_erase 1 (mem_erase 2 (mem_erase 4 (mem_take 5 M))) :)) ?_
                refine ga_op 9 (by kernel_rfl) rfl (.free rfl) fun K233 hK233 => ?_
                refine go_v rfl rfl (qt_load1 rfl rfl Try.underlying2 rfl (fun w M => (mem_own1 (n := 4) M rfl).rd) (by omega) (by omega)) ?_
                refine hK233 _ _ (fun w M => (mem_erase 1 (mem_erase 2 (mem_erase 4 (mem_take 5 M))) :)) ?_
                refine ga_op 10 (by kernel_rfl) rfl (.free rfl) fun K234 hK234 => ?_
                refine go_q rfl rfl (qt_call rfl Try.func105 rfl (by decide) rfl (fun w M => then_any w _ _ _ _ (mem_rdC M h0) (by first | assumption | omega) (by first | assumption | omega) (by first | assumption | omega) (by first | assumption | omega))) ?_
                refine hK234 _ _ (fun w M => (mem_erase 1 (mem_erase 2 (mem_erase 4 (mem_take 5 M))) :)) ?_
                refine ga_op 11 (by kernel_rfl) rfl (.free rfl) fun K236 hK236 => ?_
                refine go_clo 5 (L := [_, _, _, _, _]) (α := Option Addr) (β := Nat) rfl rfl rfl rfl Try.func158 rfl (by decide) rfl rfl rfl (fun w M => genAdd_any _ w _ _ _ _ _ _ _ _ _ _ _ (by first | exact hv.imp id (fun z => ⟨z.1, by omega⟩) | exact hw.imp id (fun z => ⟨z.1, by simp only [addB_len]; omega⟩) | (right; simp only [addB_len]; omega) | (right; omega)) (by first | (simp only [addB_len]; first | assumption | omega) | assumption | omega) (by first | omega | assumption) M) (fun _ _ => rfl) ?_
                intro va235 vc235; simp only [List.take_succ_cons, List.take_zero, List.cons_append, List.nil_append]
                refine hK236 _ _ (fun w M => (mem_erase 1 (mem_erase 2 (mem_erase 4 (mem_take 5 M))) :)) ?_
                refine ga_done (by kernel_rfl) ?_
                refine gk_pickL [0, 0, 0, 0, 0] ?_
                refine gk_sub ?hs_237 (HJ46 (_, _))
                case hs_237 => exact (sub_cons rfl (sub_cons rfl (sub_cons rfl (sub_cons rfl (sub_cons rfl (sub_cons rfl (sub_cons rfl (sub_cons rfl (sub_cons rfl (sub_cons rfl (sub_cons rfl (sub_cons rfl (sub_cons rfl (sub_cons rfl (sub_cons rfl sub_nil)))))))))))))))
              · refine go_v rfl rfl (qt_index rfl rfl rfl ulE1 szE1 (fun w M => lenA_own1 (n := 4) rfl M) (by omega) (by omega)) ?_
                refine hK230 _ _ (fun w M => (mem_erase 1 (mem_erase 2 (mem_erase 4 (mem_take 5 M))) :)) ?_
                refine ga_two 5 9 (by kernel_rfl) rfl rfl (.free rfl) (.free rfl) (fun K239 hK239 => ?_) (fun K239 hK239 => ?_)
                · refine go_v rfl rfl (qt_load1 rfl rfl Try.underlying2 rfl (fun w M => (mem_own1 (n := 4) M rfl).rd) (by omega) (by omega)) ?_
                  refine hK239 _ _ (fun w M => (mem_erase 1 (mem_erase 2 (mem_erase 4 (mem_take 5 M))) :)) ?_
                  refine ga_op 9 (by kernel_rfl) rfl (.free rfl) fun K241 hK241 => ?_
                  refine go_v rfl rfl (qt_load1 rfl rfl Try.underlying2 rfl (fun w M => (mem_own1 (n := 4) M rfl).rd) (by omega) (by omega)) ?_
                  refine hK241 _ _ (fun w M => (mem_erase 1 (mem_erase 2 (mem_erase 4 (mem_take 5 M))) :)) ?_
                  refine ga_op 10 (by kernel_rfl) rfl (.free rfl) fun K242 hK242 => ?_
                  refine go_q rfl rfl (qt_call rfl Try.func105 rfl (by decide) rfl (fun w M => then_any w _ _ _ _ (mem_rdC M h0) (by first | assumption | omega) (by first | assumption | omega) (by first | assumption | omega) (by first | assumption | omega))) ?_
                  refine hK242 _ _ (fun w M => (mem_erase 1 (mem_erase 2 (mem_erase 4 (mem_take 5 M))) :)) ?_
                  refine ga_op 11 (by kernel_rfl) rfl (.free rfl) fun K244 hK244 => ?_
                  refine go_clo 5 (L := [_, _, _, _, _]) (α := Option Addr) (β := Nat) rfl rfl rfl rfl Try.func158 rfl (by decide) rfl rfl rfl (fun w M => genAdd_any _ w _ _ _ _ _ _ _ _ _ _ _ (by first | exact hv.imp id (fun z => ⟨z.1, by omega⟩) | exact hw.imp id (fun z => ⟨z.1, by simp only [addB_len]; omega⟩) | (right; simp only [addB_len]; omega) | (right; omega)) (by first | (simp only [addB_len]; first | assumption | omega) | assumption | omega) (by first | omega | assumption) M) (fun _ _ => rfl) ?_
                  intro va243 vc243; simp only [List.take_succ_cons, List.take_zero, List.cons_append, List.nil_append]
                  refine hK244 _ _ (fun w M => (mem_erase 1 (mem_erase 2 (mem_erase 4 (mem_take 5 M))) :)) ?_
                  refine ga_done (by kernel_rfl) ?_
                  refine gk_pickL [0, 0, 0, 0, 0] ?_
                  refine gk_sub ?hs_245 (HJ46 (_, _))
                  case hs_245 => exact (sub_cons rfl (sub_cons rfl (sub_cons rfl (sub_cons rfl (sub_cons rfl (sub_cons rfl (sub_cons rfl (sub_cons rfl (sub_cons rfl (sub_cons rfl (sub_cons rfl (sub_cons rfl (sub_cons rfl (sub_cons rfl (sub_cons rfl sub_nil)))))))))))))))
                · refine go_v rfl rfl (qt_load1 rfl rfl Try.underlying2 rfl (fun w M => (mem_own1 (n := 4) M rfl).rd) (by omega) (by omega)) ?_
                  refine hK239 _ _ (fun w M => (mem_erase 1 (mem_erase 2 (mem_erase 4 (mem_take 5 M))) :)) ?_
                  refine ga_op 5 (by kernel_rfl) rfl (.free rfl) fun K247 hK247 => ?_
                  refine go_v rfl rfl (qt_load1 rfl rfl Try.underlying2 rfl (fun w M => (mem_own1 (n := 4) M rfl).rd) (by omega) (by omega)) ?_
                  refine hK247 _ _ (fun w M => (mem_erase 1 (mem_erase 2 (mem_erase 4 (mem_take 5 M))) :)) ?_
                  refine ga_op 10 (by kernel_rfl) rfl (.free rfl) fun K248 hK248 => ?_
                  refine go_q rfl rfl (qt_call rfl Try.func105 rfl (by decide) rfl (fun w M => then_any w _ _ _ _ (mem_rdC M h0) (by first | assumption | omega) (by first | assumption | omega) (by first | assumption | omega) (by first | assumption | omega))) ?_
                  refine hK248 _ _ (fun w M => (mem_erase 1 (mem_erase 2 (mem_erase 4 (mem_take 5 M))) :)) ?_
                  refine ga_op 11 (by kernel_rfl) rfl (.free rfl) fun K250 hK250 => ?_
                  refine go_clo 5 (L := [_, _, _, _, _]) (α := Option Addr) (β := Nat) rfl rfl rfl rfl Try.func158 rfl (by decide) rfl rfl rfl (fun w M => genAdd_any _ w _ _ _ _ _ _ _ _ _ _ _ (by first | exact hv.imp id (fun z => ⟨z.1, by omega⟩) | exact hw.imp id (fun z => ⟨z.1, by simp only [addB_len]; omega⟩) | (right; simp only [addB_len]; omega) | (right; omega)) (by first | (simp only [addB_len]; first | assumption | omega) | assumption | omega) (by first | omega | assumption) M) (fun _ _ => rfl) ?_
                  intro va249 vc249; simp only [List.take_succ_cons, List.take_zero, List.cons_append, List.nil_append]
                  refine hK250 _ _ (fun w M => (mem_erase 1 (mem_erase 2 (mem_erase 4 (mem_take 5 M))) :)) ?_
                  refine ga_done (by kernel_rfl) ?_
                  refine gk_pickL [0, 0, 0, 0, 0] ?_
                  refine gk_sub ?hs_251 (HJ46 (_, _))
                  case hs_251 => exact (sub_cons rfl (sub_cons rfl (sub_cons rfl (sub_cons rfl (sub_cons rfl (sub_cons rfl (sub_cons rfl (sub_cons rfl (sub_cons rfl (sub_cons rfl (sub_cons rfl (sub_cons rfl (sub_cons rfl (sub_cons rfl (sub_cons rfl sub_nil)))))))))))))))
          · refine go_v rfl rfl (qt_loadB (n := 1) rfl rfl Try.underlying22 rfl rfl rfl) ?_
            refine hK218 _ _ (fun w M => (mem_erase 1 (mem_erase 2 (mem_erase 4 (mem_take 5 M))) :)) ?_
            refine ga_two 4 8 (by kernel_rfl) rfl rfl (.free rfl) (.free rfl) (fun K253 hK253 => ?_) (fun K253 hK253 => ?_)
            · refine go_v rfl rfl (qt_index rfl rfl rfl ulE1 szE1 (fun w M => lenA_own1 (n := 4) rfl M) (by omega) (by omega)) ?_
              refine hK253 _ _ (fun w M => (mem_erase 1 (mem_erase 2 (mem_erase 4 (mem_take 5 M))) :)) ?_
              refine ga_two 5 8 (by kernel_rfl) rfl rfl (.free rfl) (.free rfl) (fun K255 hK255 => ?_) (fun K255 hK255 => ?_)
              · refine go_v rfl rfl (qt_load1 rfl rfl Try.underlying2 rfl (fun w M => (mem_own1 (n := 4) M rfl).rd) (by omega) (by omega)) ?_
                refine hK255 _ _ (fun w M => (mem_erase 1 (mem_erase 2 (mem_erase 4 (mem_take 5 M))) :)) ?_
                refine ga_op 8 (by kernel_rfl) rfl (.free rfl) fun K257 hK257 => ?_
                refine go_v rfl rfl (qt_index rfl rfl rfl ulE1 szE1 (fun w M => lenA_own1 (n := 4) rfl M) (by omega) (by omega)) ?_
                refine hK257 _ _ (fun w M => (mem_erase 1 (mem_erase 2 (mem_erase 4 (mem_take 5 M))) :)) ?_
                refine ga_op 9 (by kernel_rfl) rfl (.free rfl) fun K258 hK258 => ?_
                refine go_v rfl rfl (qt_load1 rfl rfl Try.underlying2 rfl (fun w M => (mem_own1 (n := 4) M rfl).rd) (by omega) (by omega)) ?_
                refine hK258 _ _ (fun w M => (mem_erase 1 (mem_erase 2 (mem_erase 4 (mem_take 5 M))) :)) ?_
                refine ga_op 10 (by kernel_rfl) rfl (.free rfl) fun K259 hK259 => ?_
                refine go_q rfl rfl (qt_call rfl Try.func105 rfl (by decide) rfl (fun w M => then_any w _ _ _ _ (mem_rdC M h0) (by first | assumption | omega) (by first | assumption | omega) (by first | assumption | omega) (by first | assumption | omega))) ?_
                refine hK259 _ _ (fun w M => (mem_erase 1 (mem_erase 2 (mem_erase 4 (mem_take 5 M))) :)) ?_
                refine ga_op 11 (by kernel_rfl) rfl (.free rfl) fun K261 hK261 => ?_
                refine go_clo 5 (L := [_, _, _, _, _]) (α := Option Addr) (β := Nat) rfl rfl rfl rfl Try.func158 rfl (by decide) rfl rfl rfl (fun w M => genAdd_any _ w _ _ _ _ _ _ _ _ _ _ _ (by first | exact hv.imp id (fun z => ⟨z.1, by omega⟩) | exact hw.imp id (fun z => ⟨z.1, by simp only [addB_len]; omega⟩) | (right; simp only [addB_len]; omega) | (right; omega)) (by first | (simp only [addB_len]; first | assumption | omega) | assumption | omega) (by first | omega | assumption) M) (fun _ _ => rfl) ?_
                intro va260 vc260; simp only [List.take_succ_cons, List.take_zero, List.cons_append, List.nil_append]
                refine hK261 _ _ (fun w M => (mem_erase 1 (mem_erase 2 (mem_erase 4 (mem_take 5 M))) :)) ?_
                refine ga_done (by kernel_rfl) ?_
                refine gk_pickL [0, 0, 0, 0, 0] ?_
                refine gk_sub ?hs_262 (HJ46 (_, _))
                case hs_262 => exact (sub_cons rfl (sub_cons rfl (sub_cons rfl (sub_cons rfl (sub_cons rfl (sub_cons rfl (sub_cons rfl (sub_cons rfl (sub_cons rfl (sub_cons rfl (sub_cons rfl (sub_cons rfl (sub_cons rfl (sub_cons rfl (sub_cons rfl sub_nil)))))))))))))))
              · refine go_v rfl rfl (qt_index rfl rfl rfl ulE1 szE1 (fun w M => lenA_own1 (n := 4) rfl M) (by omega) (by omega)) ?_
                refine hK255 _ _ (fun w M => (mem_erase 1 (mem_erase 2 (mem_erase 4 (mem_take 5 M))) :)) ?_
                refine ga_two 5 9 (by kernel_rfl) rfl rfl (.free rfl) (.free rfl) (fun K264 hK264 => ?_) (fun K264 hK264 => ?_)
                · refine go_v rfl rfl (qt_load1 rfl rfl Try.underlying2 rfl (fun w M => (mem_own1 (n := 4) M rfl).rd) (by omega) (by omega)) ?_
                  refine hK264 _ _ (fun w M => (mem_erase 1 (mem_erase 2 (mem_erase 4 (mem_take 5 M))) :)) ?_
                  refine ga_op 9 (by kernel_rfl) rfl (.free rfl) fun K266 hK266 => ?_
                  refine go_v rfl rfl (qt_load1 rfl rfl Try.underlying2 rfl (fun w M => (mem_own1 (n := 4) M rfl).rd) (by omega) (by omega)) ?_
                  refine hK266 _ _ (fun w M => (mem_erase 1 (mem_erase 2 (mem_erase 4 (mem_take 5 M))) :)) ?_
                  refine ga_op 10 (by kernel_rfl) rfl (.free rfl) fun K267 hK267 => ?_
                  refine go_q rfl rfl (qt_call rfl Try.func105 rfl (by decide) rfl (fun w M => then_any w _ _ _ _ (mem_rdC M h0) (by first | assumption | omega) (by first | assumption | omega) (by first | assumption | omega) (by first | assumption | omega))) ?_
                  refine hK267 _ _ (fun w M => (mem_erase 1 (mem_erase 2 (mem_erase 4 (mem_take 5 M))) :)) ?_
                  refine ga_op 11 (by kernel_rfl) rfl (.free rfl) fun K269 hK269 => ?_
                  refine go_clo 5 (L := [_, _, _, _, _]) (α := Option Addr) (β := Nat) rfl rfl rfl rfl Try.func158 rfl (by decide) rfl rfl rfl (fun w M => genAdd_any _ w _ _ _ _ _ _ _ _ _ _ _ (by first | exact hv.imp id (fun z => ⟨z.1, by omega⟩) | exact hw.imp id (fun z => ⟨z.1, by simp only [addB_len]; omega⟩) | (right; simp only [addB_len]; omega) | (right; omega)) (by first | (simp only [addB_len]; first | assumption | omega) | assumption | omega) (by first | omega | assumption) M) (fun _ _ => rfl) ?_
                  intro va268 vc268; simp only [List.take_succ_cons, List.take_zero, List.cons_append, List.nil_append]
                  refine hK269 _ _ (fun w M => (mem_erase 1 (mem_erase 2 (mem_erase 4 (mem_take 5 M))) :)) ?_
                  refine ga_done (by kernel_rfl) ?_
                  refine gk_pickL [0, 0, 0, 0, 0] ?_
                  refine gk_sub ?hs_270 (HJ46 (_, _))
                  case hs_270 => exact (sub_cons rfl (sub_cons rfl (sub_cons rfl (sub_cons rfl (sub_cons rfl (sub_cons rfl (sub_cons rfl (sub_cons rfl (sub_cons rfl (sub_cons rfl (sub_cons rfl (sub_cons rfl (sub_cons rfl (sub_cons rfl (sub_cons rfl sub_nil)))))))))))))))
                · refine go_v rfl rfl (qt_load1 rfl rfl Try.underlying2 rfl (fun w M => (mem_own1 (n := 4) M rfl).rd) (by omega) (by omega)) ?_
                  refine hK264 _ _ (fun w M => (mem_erase 1 (mem_erase 2 (mem_erase 4 (mem_take 5 M))) :)) ?_
                  refine ga_op 5 (by kernel_rfl) rfl (.free rfl) fun K272 hK272 => ?_
                  refine go_v rfl rfl (qt_load1 rfl rfl Try.underlying2 rfl (fun w M => (mem_own1 (n := 4) M rfl).rd) (by omega) (by omega)) ?_
                  refine hK272 _ _ (fun w M => (mem_erase 1 (mem_erase 2 (mem_erase 4 (mem_take 5 M))) :)) ?_
                  refine ga_op 10 (by kernel_rfl) rfl (.free rfl) fun K273 hK273 => ?_
                  refine go_q rfl rfl (qt_call rfl Try.func105 rfl (by decide) rfl (fun w M => then_any w _ _ _ _ (mem_rdC M h0) (by first | assumption | omega) (by first | assumption | omega) (by first | assumption | omega) (by first | assumption | omega))) ?_
                  refine hK273 _ _ (fun w M => (mem_erase 1 (mem_erase 2 (mem_erase 4 (mem_take 5 M))) :)) ?_
                  refine ga_op 11 (by kernel_rfl) rfl (.free rfl) fun K275 hK275 => ?_
                  refine go_clo 5 (L := [_, _, _, _, _]) (α := Option Addr) (β := Nat) rfl rfl rfl rfl Try.func158 rfl (by decide) rfl rfl rfl (fun w M => genAdd_any _ w _ _ _ _ _ _ _ _ _ _ _ (by first | exact hv.imp id (fun z => ⟨z.1, by omega⟩) | exact hw.imp id (fun z => ⟨z.1, by simp only [addB_len]; omega⟩) | (right; simp only [addB_len]; omega) | (right; omega)) (by first | (simp only [addB_len]; first | assumption | omega) | assumption | omega) (by first | omega | assumption) M) (fun _ _ => rfl) ?_
                  intro va274 vc274; simp only [List.take_succ_cons, List.take_zero, List.cons_append, List.nil_append]
                  refine hK275 _ _ (fun w M => (mem_erase 1 (mem_erase 2 (mem_erase 4 (mem_take 5 M))) :)) ?_
                  refine ga_done (by kernel_rfl) ?_
                  refine gk_pickL [0, 0, 0, 0, 0] ?_
                  refine gk_sub ?hs_276 (HJ46 (_, _))
                  case hs_276 => exact (sub_cons rfl (sub_cons rfl (sub_cons rfl (sub_cons rfl (sub_cons rfl (sub_cons rfl (sub_cons rfl (sub_cons rfl (sub_cons rfl (sub_cons rfl (sub_cons rfl (sub_cons rfl (sub_cons rfl (sub_cons rfl (sub_cons rfl sub_nil)))))))))))))))
            · refine go_v rfl rfl (qt_index rfl rfl rfl ulE1 szE1 (fun w M => lenA_own1 (n := 4) rfl M) (by omega) (by omega)) ?_
              refine hK253 _ _ (fun w M => (mem_erase 1 (mem_erase 2 (mem_erase 4 (mem_take 5 M))) :)) ?_
              refine ga_two 4 9 (by kernel_rfl) rfl rfl (.free rfl) (.free rfl) (fun K278 hK278 => ?_) (fun K278 hK278 => ?_)
              · refine go_v rfl rfl (qt_index rfl rfl rfl ulE1 szE1 (fun w M => lenA_own1 (n := 4) rfl M) (by omega) (by omega)) ?_
                refine hK278 _ _ (fun w M => (mem_erase 1 (mem_erase 2 (mem_erase 4 (mem_take 5 M))) :)) ?_
                refine ga_two 5 9 (by kernel_rfl) rfl rfl (.free rfl) (.free rfl) (fun K280 hK280 => ?_) (fun K280 hK280 => ?_)
                · refine go_v rfl rfl (qt_load1 rfl rfl Try.underlying2 rfl (fun w M => (mem_own1 (n := 4) M rfl).rd) (by omega) (by omega)) ?_
                  refine hK280 _ _ (fun w M => (mem_erase 1 (mem_erase 2 (mem_erase 4 (mem_take 5 M))) :)) ?_
                  refine ga_op 9 (by kernel_rfl) rfl (.free rfl) fun K282 hK282 => ?_
                  refine go_v rfl rfl (qt_load1 rfl rfl Try.underlying2 rfl (fun w M => (mem_own1 (n := 4) M rfl).rd) (by omega) (by omega)) ?_
                  refine hK282 _ _ (fun w M => (mem_erase 1 (mem_erase 2 (mem_erase 4 (mem_take 5 M))) :)) ?_
                  refine ga_op 10 (by kernel_rfl) rfl (.free rfl) fun K283 hK283 => ?_
                  refine go_q rfl rfl (qt_call rfl Try.func105 rfl (by decide) rfl (fun w M => then_any w _ _ _ _ (mem_rdC M h0) (by first | assumption | omega) (by first | assumption | omega) (by first | assumption | omega) (by first | assumption | omega))) ?_
                  refine hK283 _ _ (fun w M => (mem_erase 1 (mem_erase 2 (mem_erase 4 (mem_take 5 M))) :)) ?_
                  refine ga_op 11 (by kernel_rfl) rfl (.free rfl) fun K285 hK285 => ?_
                  refine go_clo 5 (L := [_, _, _, _, _]) (α := Option Addr) (β := Nat) rfl rfl rfl rfl Try.func158 rfl (by decide) rfl rfl rfl (fun w M => genAdd_any _ w _ _ _ _ _ _ _ _ _ _ _ (by first | exact hv.imp id (fun z => ⟨z.1, by omega⟩) | exact hw.imp id (fun z => ⟨z.1, by simp only [addB_len]; omega⟩) | (right; simp only [addB_len]; omega) | (right; omega)) (by first | (simp only [addB_len]; first | assumption | omega) | assumption | omega) (by first | omega | assumption) M) (fun _ _ => rfl) ?_
                  intro va284 vc284; simp only [List.take_succ_cons, List.take_zero, List.cons_append, List.nil_append]
                  refine hK285 _ _ (fun w M => (mem_erase 1 (mem_erase 2 (mem_erase 4 (mem_take 5 M))) :)) ?_
                  refine ga_done (by kernel_rfl) ?_
                  refine gk_pickL [0, 0, 0, 0, 0] ?_
                  refine gk_sub ?hs_286 (HJ46 (_, _))
                  case hs_286 => exact (sub_cons rfl (sub_cons rfl (sub_cons rfl (sub_cons rfl (sub_cons rfl (sub_cons rfl (sub_cons rfl (sub_cons rfl (sub_cons rfl (sub_cons rfl (sub_cons rfl (sub_cons rfl (sub_cons rfl (sub_cons rfl (sub_cons rfl sub_nil)))))))))))))))
                · refine go_v rfl rfl (qt_load1 rfl rfl Try.underlying2 rfl (fun w M => (mem_own1 (n := 4) M rfl).rd) (by omega) (by omega)) ?_
                  refine hK280 _ _ (fun w M => (mem_erase 1 (mem_erase 2 (mem_erase 4 (mem_take 5 M))) :)) ?_
                  refine ga_op 5 (by kernel_rfl) rfl (.free rfl) fun K288 hK288 => ?_
                  refine go_v rfl rfl (qt_load1 rfl rfl Try.underlying2 rfl (fun w M => (mem_own1 (n := 4) M rfl).rd) (by omega) (by omega)) ?_
                  refine hK288 _ _ (fun w M => (mem_erase 1 (mem_erase 2 (mem_erase 4 (mem_take 5 M))) :)) ?_
                  refine ga_op 10 (by kernel_rfl) rfl (.free rfl) fun K289 hK289 => ?_
                  refine go_q rfl rfl (qt_call rfl Try.func105 rfl (by decide) rfl (fun w M => then_any w _ _ _ _ (mem_rdC M h0) (by first | assumption | omega) (by first | assumption | omega) (by first | assumption | omega) (by first | assumption | omega))) ?_
                  refine hK289 _ _ (fun w M => (mem_erase 1 (mem_erase 2 (mem_erase 4 (mem_take 5 M))) :)) ?_
                  refine ga_op 11 (by kernel_rfl) rfl (.free rfl) fun K291 hK291 => ?_
                  refine go_clo 5 (L := [_, _, _, _, _]) (α := Option Addr) (β := Nat) rfl rfl rfl rfl Try.func158 rfl (by decide) rfl rfl rfl (fun w M => genAdd_any _ w _ _ _ _ _ _ _ _ _ _ _ (by first | exact hv.imp id (fun z => ⟨z.1, by omega⟩) | exact hw.imp id (fun z => ⟨z.1, by simp only [addB_len]; omega⟩) | (right; simp only [addB_len]; omega) | (right; omega)) (by first | (simp only [addB_len]; first | assumption | omega) | assumption | omega) (by first | omega | assumption) M) (fun _ _ => rfl) ?_
                  intro va290 vc290; simp only [List.take_succ_cons, List.take_zero, List.cons_append, List.nil_append]
                  refine hK291 _ _ (fun w M => (mem_erase 1 (mem_erase 2 (mem_erase 4 (mem_take 5 M))) :)) ?_
                  refine ga_done (by kernel_rfl) ?_
                  refine gk_pickL [0, 0, 0, 0, 0] ?_
                  refine gk_sub ?hs_292 (HJ46 (_, _))
                  case hs_292 => exact (sub_cons rfl (sub_cons rfl (sub_cons rfl (sub_cons rfl (sub_cons rfl (sub_cons rfl (sub_cons rfl (sub_cons rfl (sub_cons rfl (sub_cons rfl (sub_cons rfl (sub_cons rfl (sub_cons rfl (sub_cons rfl (sub_cons rfl sub_nil)))))))))))))))
              · refine go_v rfl rfl (qt_load1 rfl rfl Try.underlying2 rfl (fun w M => (mem_own1 (n := 4) M rfl).rd) (by omega) (by omega)) ?_
                refine hK278 _ _ (fun w M => (mem_erase 1 (mem_erase 2 (mem_erase 4 (mem_take 5 M))) :)) ?_
                refine ga_op 4 (by kernel_rfl) rfl (.free rfl) fun K294 hK294 => ?_
                refine go_v rfl rfl (qt_index rfl rfl rfl ulE1 szE1 (fun w M => lenA_own1 (n := 4) rfl M) (by omega) (by omega)) ?_
                refine hK294 _ _ (fun w M => (mem_erase 1 (mem_erase 2 (mem_erase 4 (mem_take 5 M))) :)) ?_
                refine ga_op 5 (by kernel_rfl) rfl (.free rfl) fun K295 hK295 => ?_
                refine go_v rfl rfl (qt_load1 rfl rfl Try.underlying2 rfl (fun w M => (mem_own1 (n := 4) M rfl).rd) (by omega) (by omega)) ?_
                refine hK295 _ _ (fun w M => (mem_erase 1 (mem_erase 2 (mem_erase 4 (mem_take 5 M))) :)) ?_
                refine ga_op 10 (by kernel_rfl) rfl (.free rfl) fun K296 hK296 => ?_
                refine go_q rfl rfl (qt_call rfl Try.func105 rfl (by decide) rfl (fun w M => then_any w _ _ _ _ (mem_rdC M h0) (by first | assumption | omega) (by first | assumption | omega) (by first | assumption | omega) (by first | assumption | omega))) ?_
                refine hK296 _ _ (fun w M => (mem_erase 1 (mem_erase 2 (mem_erase 4 (mem_take 5 M))) :)) ?_
                refine ga_op 11 (by kernel_rfl) rfl (.free rfl) fun K298 hK298 => ?_
                refine go_clo 5 (L := [_, _, _, _, _]) (α := Option Addr) (β := Nat) rfl rfl rfl rfl Try.func158 rfl (by decide) rfl rfl rfl (fun w M => genAdd_any _ w _ _ _ _ _ _ _ _ _ _ _ (by first | exact hv.imp id (fun z => ⟨z.1, by omega⟩) | exact hw.imp id (fun z => ⟨z.1, by simp only [addB_len]; omega⟩) | (right; simp only [addB_len]; omega) | (right; omega)) (by first | (simp only [addB_len]; first | assumption | omega) | assumption | omega) (by first | omega | assumption) M) (fun _ _ => rfl) ?_
                intro va297 vc297; simp only [List.take_succ_cons, List.take_zero, List.cons_append, List.nil_append]
                refine hK298 _ _ (fun w M => (mem_erase 1 (mem_erase 2 (mem_erase 4 (mem_take 5 M))) :)) ?_
                refine ga_done (by kernel_rfl) ?_
                refine gk_pickL [0, 0, 0, 0, 0] ?_
                refine gk_sub ?hs_299 (HJ46 (_, _))
                case hs_299 => exact (sub_cons rfl (sub_cons rfl (sub_cons rfl (sub_cons rfl (sub_cons rfl (sub_cons rfl (sub_cons rfl (sub_cons rfl (sub_cons rfl (sub_cons rfl (sub_cons rfl (sub_cons rfl (sub_cons rfl (sub_cons rfl (sub_cons rfl sub_nil)))))))))))))))
        · refine go_v rfl rfl (qt_loadB (n := 1) rfl rfl Try.underlying22 rfl rfl rfl) ?_
          refine hK216 _ _ (fun w M => (mem_erase 1 (mem_erase 2 (mem_erase 4 (mem_take 5 M))) :)) ?_
          refine ga_two 2 8 (by kernel_rfl) rfl rfl (.free rfl) (.free rfl) (fun K301 hK301 => ?_) (fun K301 hK301 => ?_)
          · refine go_v rfl rfl (qt_loadB (n := 1) rfl rfl Try.underlying22 rfl rfl rfl) ?_
            refine hK301 _ _ (fun w M => (mem_erase 1 (mem_erase 2 (mem_erase 4 (mem_take 5 M))) :)) ?_
            refine ga_two 4 8 (by kernel_rfl) rfl rfl (.free rfl) (.free rfl) (fun K303 hK303 => ?_) (fun K303 hK303 => ?_)
            · refine go_v rfl rfl (qt_index rfl rfl rfl ulE1 szE1 (fun w M => lenA_own1 (n := 4) rfl M) (by omega) (by omega)) ?_
              refine hK303 _ _ (fun w M => (mem_erase 1 (mem_erase 2 (mem_erase 4 (mem_take 5 M))) :)) ?_
              refine ga_two 5 8 (by kernel_rfl) rfl rfl (.free rfl) (.free rfl) (fun K305 hK305 => ?_) (fun K305 hK305 => ?_)
              · refine go_v rfl rfl (qt_load1 rfl rfl Try.underlying2 rfl (fun w M => (mem_own1 (n := 4) M rfl).rd) (by omega) (by omega)) ?_
                refine hK305 _ _ (fun w M => (mem_erase 1 (mem_erase 2 (mem_erase 4 (mem_take 5 M))) :)) ?_
                refine ga_op 8 (by kernel_rfl) rfl (.free rfl) fun K307 hK307 => ?_
                refine go_v rfl rfl (qt_index rfl rfl rfl ulE1 szE1 (fun w M => lenA_own1 (n := 4) rfl M) (by omega) (by omega)) ?_
                refine hK307 _ _ (fun w M => (mem_erase 1 (mem_erase 2 (mem_erase 4 (mem_take 5 M))) :)) ?_
                refine ga_op 9 (by kernel_rfl) rfl (.free rfl) fun K308 hK308 => ?_
                refine go_v rfl rfl (qt_load1 rfl rfl Try.underlying2 rfl (fun w M => (mem_own1 (n := 4) M rfl).rd) (by omega) (by omega)) ?_
                refine hK308 _ _ (fun w M => (mem_erase 1 (mem_erase 2 (mem_erase 4 (mem_take 5 M))) :)) ?_
                refine ga_op 10 (by kernel_rfl) rfl (.free rfl) fun K309 hK309 => ?_
                refine go_q rfl rfl (qt_call rfl Try.func105 rfl (by decide) rfl (fun w M => then_any w _ _ _ _ (mem_rdC M h0) (by first | assumption | omega) (by first | assumption | omega) (by first | assumption | omega) (by first | assumption | omega))) ?_
                refine hK309 _ _ (fun w M => (mem_erase 1 (mem_erase 2 (mem_erase 4 (mem_take 5 M))) :)) ?_
                refine ga_op 11 (by kernel_rfl) rfl (.free rfl) fun K311 hK311 => ?_
                refine go_clo 5 (L := [_, _, _, _, _]) (α := Option Addr) (β := Nat) rfl rfl rfl rfl Try.func158 rfl (by decide) rfl rfl rfl (fun w M => genAdd_any _ w _ _ _ _ _ _ _ _ _ _ _ (by first | exact hv.imp id (fun z => ⟨z.1, by omega⟩) | exact hw.imp id (fun z => ⟨z.1, by simp only [addB_len]; omega⟩) | (right; simp only [addB_len]; omega) | (right; omega)) (by first | (simp only [addB_len]; first | assumption | omega) | assumption | omega) (by first | omega | assumption) M) (fun _ _ => rfl) ?_
                intro va310 vc310; simp only [List.take_succ_cons, List.take_zero, List.cons_append, List.nil_append]
                refine hK311 _ _ (fun w M => (mem_erase 1 (mem_erase 2 (mem_erase 4 (mem_take 5 M))) :)) ?_
                refine ga_done (by kernel_rfl) ?_
                refine gk_pickL [0, 0, 0, 0, 0] ?_
                refine gk_sub ?hs_312 (HJ46 (_, _))
                case hs_312 => exact (sub_cons rfl (sub_cons rfl (sub_cons rfl (sub_cons rfl (sub_cons rfl (sub_cons rfl (sub_cons rfl (sub_cons rfl (sub_cons rfl (sub_cons rfl (sub_cons rfl (sub_cons rfl (sub_cons rfl (sub_cons rfl (sub_cons rfl sub_nil)))))))))))))))
              · refine go_v rfl rfl (qt_index rfl rfl rfl ulE1 szE1 (fun w M => lenA_own1 (n := 4) rfl M) (by omega) (by omega)) ?_
                refine hK305 _ _ (fun w M => (mem_erase 1 (mem_erase 2 (mem_erase 4 (mem_take 5 M))) :)) ?_
                refine ga_two 5 9 (by kernel_rfl) rfl rfl (.free rfl) (.free rfl) (fun K314 hK314 => ?_) (fun K314 hK314 => ?_)
                · refine go_v rfl rfl (qt_load1 rfl rfl Try.underlying2 rfl (fun w M => (mem_own1 (n := 4) M rfl).rd) (by omega) (by omega)) ?_
                  refine hK314 _ _ (fun w M => (mem_erase 1 (mem_erase 2 (mem_erase 4 (mem_take 5 M))) :)) ?_
                  refine ga_op 9 (by kernel_rfl) rfl (.free rfl) fun K316 hK316 => ?_
                  refine go_v rfl rfl (qt_load1 rfl rfl Try.underlying2 rfl (fun w M => (mem_own1 (n := 4) M rfl).rd) (by omega) (by omega)) ?_
                  refine hK316 _ _ (fun w M => (mem_erase 1 (mem_erase 2 (mem_erase 4 (mem_take 5 M))) :)) ?_
                  refine ga_op 10 (by kernel_rfl) rfl (.free rfl) fun K317 hK317 => ?_
                  refine go_q rfl rfl (qt_call rfl Try.func105 rfl (by decide) rfl (fun w M => then_any w _ _ _ _ (mem_rdC M h0) (by first | assumption | omega) (by first | assumption | omega) (by first | assumption | omega) (by first | assumption | omega))) ?_
                  refine hK317 _ _ (fun w M => (mem_erase 1 (mem_erase 2 (mem_erase 4 (mem_take 5 M))) :)) ?_
                  refine ga_op 11 (by kernel_rfl) rfl (.free rfl) fun K319 hK319 => ?_
                  refine go_clo 5 (L := [_, _, _, _, _]) (α := Option Addr) (β := Nat) rfl rfl rfl rfl Try.func158 rfl (by decide) rfl rfl rfl (fun w M => genAdd_any _ w _ _ _ _ _ _ _ _ _ _ _ (by first | exact hv.imp id (fun z => ⟨z.1, by omega⟩) | exact hw.imp id (fun z => ⟨z.1, by simp only [addB_len]; omega⟩) | (right; simp only [addB_len]; omega) | (right; omega)) (by first | (simp only [addB_len]; first | assumption | omega) | assumption | omega) (by first | omega | assumption) M) (fun _ _ => rfl) ?_
                  intro va318 vc318; simp only [List.take_succ_cons, List.take_zero, List.cons_append, List.nil_append]
                  refine hK319 _ _ (fun w M => (mem_erase 1 (mem_erase 2 (mem_erase 4 (mem_take 5 M))) :)) ?_
                  refine ga_done (by kernel_rfl) ?_
                  refine gk_pickL [0, 0, 0, 0, 0] ?_
                  refine gk_sub ?hs_320 (HJ46 (_, _))
                  case hs_320 => exact (sub_cons rfl (sub_cons rfl (sub_cons rfl (sub_cons rfl (sub_cons rfl (sub_cons rfl (sub_cons rfl (sub_cons rfl (sub_cons rfl (sub_cons rfl (sub_cons rfl (sub_cons rfl (sub_cons rfl (sub_cons rfl (sub_cons rfl sub_nil)))))))))))))))
                · refine go_v rfl rfl (qt_load1 rfl rfl Try.underlying2 rfl (fun w M => (mem_own1 (n := 4) M rfl).rd) (by omega) (by omega)) ?_
                  refine hK314 _ _ (fun w M => (mem_erase 1 (mem_erase 2 (mem_erase 4 (mem_take 5 M))) :)) ?_
                  refine ga_op 5 (by kernel_rfl) rfl (.free rfl) fun K322 hK322 => ?_
                  refine go_v rfl rfl (qt_load1 rfl rfl Try.underlying2 rfl (fun w M => (mem_own1 (n := 4) M rfl).rd) (by omega) (by omega)) ?_
                  refine hK322 _ _ (fun w M => (mem_erase 1 (mem_erase 2 (mem_erase 4 (mem_take 5 M))) :)) ?_
                  refine ga_op 10 (by kernel_rfl) rfl (.free rfl) fun K323 hK323 => ?_
                  refine go_q rfl rfl (qt_call rfl Try.func105 rfl (by decide) rfl (fun w M => then_any w _ _ _ _ (mem_rdC M h0) (by first | assumption | omega) (by first | assumption | omega) (by first | assumption | omega) (by first | assumption | omega))) ?_
                  refine hK323 _ _ (fun w M => (mem_erase 1 (mem_erase 2 (mem_erase 4 (mem_take 5 M))) :)) ?_
                  refine ga_op 11 (by kernel_rfl) rfl (.free rfl) fun K325 hK325 => ?_
                  refine go_clo 5 (L := [_, _, _, _, _]) (α := Option Addr) (β := Nat) rfl rfl rfl rfl Try.func158 rfl (by decide) rfl rfl rfl (fun w M => genAdd_any _ w _ _ _ _ _ _ _ _ _ _ _ (by first | exact hv.imp id (fun z => ⟨z.1, by omega⟩) | exact hw.imp id (fun z => ⟨z.1, by simp only [addB_len]; omega⟩) | (right; simp only [addB_len]; omega) | (right; omega)) (by first | (simp only [addB_len]; first | assumption | omega) | assumption | omega) (by first | omega | assumption) M) (fun _ _ => rfl) ?_
                  intro va324 vc324; simp only [List.take_succ_cons, List.take_zero, List.cons_append, List.nil_append]
                  refine hK325 _ _ (fun w M => (mem_erase 1 (mem_erase 2 (mem_erase 4 (mem_take 5 M))) :)) ?_
                  refine ga_done (by kernel_rfl) ?_
                  refine gk_pickL [0, 0, 0, 0, 0] ?_
                  refine gk_sub ?hs_326 (HJ46 (_, _))
                  case hs_326 => exact (sub_cons rfl (sub_cons rfl (sub_cons rfl (sub_cons rfl (sub_cons rfl (sub_cons rfl (sub_cons rfl (sub_cons rfl (sub_cons rfl (sub_cons rfl (sub_cons rfl (sub_cons rfl (sub_cons rfl (sub_cons rfl (sub_cons rfl sub_nil)))))))))))))))
            · refine go_v rfl rfl (qt_index rfl rfl rfl ulE1 szE1 (fun w M => lenA_own1 (n := 4) rfl M) (by omega) (by omega)) ?_
              refine hK303 _ _ (fun w M => (mem_erase 1 (mem_erase 2 (mem_erase 4 (mem_take 5 M))) :)) ?_
              refine ga_two 4 9 (by kernel_rfl) rfl rfl (.free rfl) (.free rfl) (fun K328 hK328 => ?_) (fun K328 hK328 => ?_)
              · refine go_v rfl rfl (qt_index rfl rfl rfl ulE1 szE1 (fun w M => lenA_own1 (n := 4) rfl M) (by omega) (by omega)) ?_
                refine hK328 _ _ (fun w M => (mem_erase 1 (mem_erase 2 (mem_erase 4 (mem_take 5 M))) :)) ?_
                refine ga_two 5 9 (by kernel_rfl) rfl rfl (.free rfl) (.free rfl) (fun K330 hK330 => ?_) (fun K330 hK330 => ?_)
                · refine go_v rfl rfl (qt_load1 rfl rfl Try.underlying2 rfl (fun w M => (mem_own1 (n := 4) M rfl).rd) (by omega) (by omega)) ?_
                  refine hK330 _ _ (fun w M => (mem_erase 1 (mem_erase 2 (mem_erase 4 (mem_take 5 M))) :)) ?_
                  refine ga_op 9 (by kernel_rfl) rfl (.free rfl) fun K332 hK332 => ?_
                  refine go_v rfl rfl (qt_load1 rfl rfl Try.underlying2 rfl (fun w M => (mem_own1 (n := 4) M rfl).rd) (by omega) (by omega)) ?_
                  refine hK332 _ _ (fun w M => (mem_erase 1 (mem_erase 2 (mem_erase 4 (mem_take 5 M))) :)) ?_
                  refine ga_op 10 (by kernel_rfl) rfl (.free rfl) fun K333 hK333 => ?_
                  refine go_q rfl rfl (qt_call rfl Try.func105 rfl (by decide) rfl (fun w M => then_any w _ _ _ _ (mem_rdC M h0) (by first | assumption | omega) (by first | assumption | omega) (by first | assumption | omega) (by first | assumption | omega))) ?_
                  refine hK333 _ _ (fun w M => (mem_erase 1 (mem_erase 2 (mem_erase 4 (mem_take 5 M))) :)) ?_
                  refine ga_op 11 (by kernel_rfl) rfl (.free rfl) fun K335 hK335 => ?_
                  refine go_clo 5 (L := [_, _, _, _, _]) (α := Option Addr) (β := Nat) rfl rfl rfl rfl Try.func158 rfl (by decide) rfl rfl rfl (fun w M => genAdd_any _ w _ _ _ _ _ _ _ _ _ _ _ (by first | exact hv.imp id (fun z => ⟨z.1, by omega⟩) | exact hw.imp id (fun z => ⟨z.1, by simp only [addB_len]; omega⟩) | (right; simp only [addB_len]; omega) | (right; omega)) (by first | (simp only [addB_len]; first | assumption | omega) | assumption | omega) (by first | omega | assumption) M) (fun _ _ => rfl) ?_
                  intro va334 vc334; simp only [List.take_succ_cons, List.take_zero, List.cons_append, List.nil_append]
                  refine hK335 _ _ (fun w M => (mem_erase 1 (mem_erase 2 (mem_erase 4 (mem_take 5 M))) :)) ?_
                  refine ga_done (by kernel_rfl) ?_
                  refine gk_pickL [0, 0, 0, 0, 0] ?_
                  refine gk_sub ?hs_336 (HJ46 (_, _))
                  case hs_336 => exact (sub_cons rfl (sub_cons rfl (sub_cons rfl (sub_cons rfl (sub_cons rfl (sub_cons rfl (sub_cons rfl (sub_cons rfl (sub_cons rfl (sub_cons rfl (sub_cons rfl (sub_cons rfl (sub_cons rfl (sub_cons rfl (sub_cons rfl sub_nil)))))))))))))))
                · refine go_v rfl rfl (qt_load1 rfl rfl Try.underlying2 rfl (fun w M => (mem_own1 (n := 4) M rfl).rd) (by omega) (by omega)) ?_
                  refine hK330 _ _ (fun w M => (mem_erase 1 (mem_erase 2 (mem_erase 4 (mem_take 5 M))) :)) ?_
                  refine ga_op 5 (by kernel_rfl) rfl (.free rfl) fun K338 hK338 => ?_
                  refine go_v rfl rfl (qt_load1 rfl rfl Try.underlying2 rfl (fun w M => (mem_own1 (n := 4) M rfl).rd) (by omega) (by omega)) ?_
                  refine hK338 _ _ (fun w M => (mem_erase 1 (mem_erase 2 (mem_erase 4 (mem_take 5 M))) :)) ?_
                  refine ga_op 10 (by kernel_rfl) rfl (.free rfl) fun K339 hK339 => ?_
                  refine go_q rfl rfl (qt_call rfl Try.func105 rfl (by decide) rfl (fun w M => then_any w _ _ _ _ (mem_rdC M h0) (by first | assumption | omega) (by first | assumption | omega) (by first | assumption | omega) (by first | assumption | omega))) ?_
                  refine hK339 _ _ (fun w M => (mem_erase 1 (mem_erase 2 (mem_erase 4 (mem_take 5 M))) :)) ?_
                  refine ga_op 11 (by kernel_rfl) rfl (.free rfl) fun K341 hK341 => ?_
                  refine go_clo 5 (L := [_, _, _, _, _]) (α := Option Addr) (β := Nat) rfl rfl rfl rfl Try.func158 rfl (by decide) rfl rfl rfl (fun w M => genAdd_any _ w _ _ _ _ _ _ _ _ _ _ _ (by first | exact hv.imp id (fun z => ⟨z.1, by omega⟩) | exact hw.imp id (fun z => ⟨z.1, by simp only [addB_len]; omega⟩) | (right; simp only [addB_len]; omega) | (right; omega)) (by first | (simp only [addB_len]; first | assumption | omega) | assumption | omega) (by first | omega | assumption) M) (fun _ _ => rfl) ?_
                  intro va340 vc340; simp only [List.take_succ_cons, List.take_zero, List.cons_append, List.nil_append]
                  refine hK341 _ _ (fun w M => (mem_erase 1 (mem_erase 2 (mem_erase 4 (mem_take 5 M))) :)) ?_
                  refine ga_done (by kernel_rfl) ?_
                  refine gk_pickL [0, 0, 0, 0, 0] ?_
                  refine gk_sub ?hs_342 (HJ46 (_, _))
                  case hs_342 => exact (sub_cons rfl (sub_cons rfl (sub_cons rfl (sub_cons rfl (sub_cons rfl (sub_cons rfl (sub_cons rfl (sub_cons rfl (sub_cons rfl (sub_cons rfl (sub_cons rfl (sub_cons rfl (sub_cons rfl (sub_cons rfl (sub_cons rfl sub_nil)))))))))))))))
              · refine go_v rfl rfl (qt_load1 rfl rfl Try.underlying2 rfl (fun w M => (mem_own1 (n := 4) M rfl).rd) (by omega) (by omega)) ?_
                refine hK328 _ _ (fun w M => (mem_erase 1 (mem_erase 2 (mem_erase 4 (mem_take 5 M))) :)) ?_
                refine ga_op 4 (by kernel_rfl) rfl (.free rfl) fun K344 hK344 => ?_
                refine go_v rfl rfl (qt_index rfl rfl rfl ulE1 szE1 (fun w M => lenA_own1 (n := 4) rfl M) (by omega) (by omega)) ?_
                refine hK344 _ _ (fun w M => (mem_erase 1 (mem_erase 2 (mem_erase 4 (mem_take 5 M))) :)) ?_
                refine ga_op 5 (by kernel_rfl) rfl (.free rfl) fun K345 hK345 => ?_
                refine go_v rfl rfl (qt_load1 rfl rfl Try.underlying2 rfl (fun w M => (mem_own1 (n := 4) M rfl).rd) (by omega) (by omega)) ?_
                refine hK345 _ _ (fun w M => (mem_erase 1 (mem_erase 2 (mem_erase 4 (mem_take 5 M))) :)) ?_
                refine ga_op 10 (by kernel_rfl) rfl (.free rfl) fun K346 hK346 => ?_
                refine go_q rfl rfl (qt_call rfl Try.func105 rfl (by decide) rfl (fun w M => then_any w _ _ _ _ (mem_rdC M h0) (by first | assumption | omega) (by first | assumption | omega) (by first | assumption | omega) (by first | assumption | omega))) ?_
                refine hK346 _ _ (fun w M => (mem_erase 1 (mem_erase 2 (mem_erase 4 (mem_take 5 M))) :)) ?_
                refine ga_op 11 (by kernel_rfl) rfl (.free rfl) fun K348 hK348 => ?_
                refine go_clo 5 (L := [_, _, _, _, _]) (α := Option Addr) (β := Nat) rfl rfl rfl rfl Try.func158 rfl (by decide) rfl rfl rfl (fun w M => genAdd_any _ w _ _ _ _ _ _ _ _ _ _ _ (by first | exact hv.imp id (fun z => ⟨z.1, by omega⟩) | exact hw.imp id (fun z => ⟨z.1, by simp only [addB_len]; omega⟩) | (right; simp only [addB_len]; omega) | (right; omega)) (by first | (simp only [addB_len]; first | assumption | omega) | assumption | omega) (by first | omega | assumption) M) (fun _ _ => rfl) ?_
                intro va347 vc347; simp only [List.take_succ_cons, List.take_zero, List.cons_append, List.nil_append]
                refine hK348 _ _ (fun w M => (mem_erase 1 (mem_erase 2 (mem_erase 4 (mem_take 5 M))) :)) ?_
                refine ga_done (by kernel_rfl) ?_
                refine gk_pickL [0, 0, 0, 0, 0] ?_
                refine gk_sub ?hs_349 (HJ46 (_, _))
                case hs_349 => exact (sub_cons rfl (sub_cons rfl (sub_cons rfl (sub_cons rfl (sub_cons rfl (sub_cons rfl (sub_cons rfl (sub_cons rfl (sub_cons rfl (sub_cons rfl (sub_cons rfl (sub_cons rfl (sub_cons rfl (sub_cons rfl (sub_cons rfl sub_nil)))))))))))))))
          · refine go_v rfl rfl (qt_index rfl rfl rfl ulE1 szE1 (fun w M => lenA_own1 (n := 4) rfl M) (by omega) (by omega)) ?_
            refine hK301 _ _ (fun w M => (mem_erase 1 (mem_erase 2 (mem_erase 4 (mem_take 5 M))) :)) ?_
            refine ga_two 2 9 (by kernel_rfl) rfl rfl (.free rfl) (.free rfl) (fun K351 hK351 => ?_) (fun K351 hK351 => ?_)
            · refine go_v rfl rfl (qt_loadB (n := 1) rfl rfl Try.underlying22 rfl rfl rfl) ?_
              refine hK351 _ _ (fun w M => (mem_erase 1 (mem_erase 2 (mem_erase 4 (mem_take 5 M))) :)) ?_
              refine ga_two 4 9 (by kernel_rfl) rfl rfl (.free rfl) (.free rfl) (fun K353 hK353 => ?_) (fun K353 hK353 => ?_)
              · refine go_v rfl rfl (qt_index rfl rfl rfl ulE1 szE1 (fun w M => lenA_own1 (n := 4) rfl M) (by omega) (by omega)) ?_
                refine hK353 _ _ (fun w M => (mem_erase 1 (mem_erase 2 (mem_erase 4 (mem_take 5 M))) :)) ?_
                refine ga_two 5 9 (by kernel_rfl) rfl rfl (.free rfl) (.free rfl) (fun K355 hK355 => ?_) (fun K355 hK355 => ?_)
                · refine go_v rfl rfl (qt_load1 rfl rfl Try.underlying2 rfl (fun w M => (mem_own1 (n := 4) M rfl).rd) (by omega) (by omega)) ?_
                  refine hK355 _ _ (fun w M => (mem_erase 1 (mem_erase 2 (mem_erase 4 (mem_take 5 M))) :)) ?_
                  refine ga_op 9 (by kernel_rfl) rfl (.free rfl) fun K357 hK357 => ?_
                  refine go_v rfl rfl (qt_load1 rfl rfl Try.underlying2 rfl (fun w M => (mem_own1 (n := 4) M rfl).rd) (by omega) (by omega)) ?_
                  refine hK357 _ _ (fun w M => (mem_erase 1 (mem_erase 2 (mem_erase 4 (mem_take 5 M))) :)) ?_
                  refine ga_op 10 (by kernel_rfl) rfl (.free rfl) fun K358 hK358 => ?_
                  refine go_q rfl rfl (qt_call rfl Try.func105 rfl (by decide) rfl (fun w M => then_any w _ _ _ _ (mem_rdC M h0) (by first | assumption | omega) (by first | assumption | omega) (by first | assumption | omega) (by first | assumption | omega))) ?_
                  refine hK358 _ _ (fun w M => (mem_erase 1 (mem_erase 2 (mem_erase 4 (mem_take 5 M))) :)) ?_
                  refine ga_op 11 (by kernel_rfl) rfl (.free rfl) fun K360 hK360 => ?_
                  refine go_clo 5 (L := [_, _, _, _, _]) (α := Option Addr) (β := Nat) rfl rfl rfl rfl Try.func158 rfl (by decide) rfl rfl rfl (fun w M => genAdd_any _ w _ _ _ _ _ _ _ _ _ _ _ (by first | exact hv.imp id (fun z => ⟨z.1, by omega⟩) | exact hw.imp id (fun z => ⟨z.1, by simp only [addB_len]; omega⟩) | (right; simp only [addB_len]; omega) | (right; omega)) (by first | (simp only [addB_len]; first | assumption | omega) | assumption | omega) (by first | omega | assumption) M) (fun _ _ => rfl) ?_
                  intro va359 vc359; simp only [List.take_succ_cons, List.take_zero, List.cons_append, List.nil_append]
                  refine hK360 _ _ (fun w M => (mem_erase 1 (mem_erase 2 (mem_erase 4 (mem_take 5 M))) :)) ?_
                  refine ga_done (by kernel_rfl) ?_
                  refine gk_pickL [0, 0, 0, 0, 0] ?_
                  refine gk_sub ?hs_361 (HJ46 (_, _))
                  case hs_361 => exact (sub_cons rfl (sub_cons rfl (sub_cons rfl (sub_cons rfl (sub_cons rfl (sub_cons rfl (sub_cons rfl (sub_cons rfl (sub_cons rfl (sub_cons rfl (sub_cons rfl (sub_cons rfl (sub_cons rfl (sub_cons rfl (sub_cons rfl sub_nil)))))))))))))))
                · refine go_v rfl rfl (qt_load1 rfl rfl Try.underlying2 rfl (fun w M => (mem_own1 (n := 4) M rfl).rd) (by omega) (by omega)) ?_
                  refine hK355 _ _ (fun w M => (mem_erase 1 (mem_erase 2 (mem_erase 4 (mem_take 5 M))) :)) ?_
                  refine ga_op 5 (by kernel_rfl) rfl (.free rfl) fun K363 hK363 => ?_
                  refine go_v rfl rfl (qt_load1 rfl rfl Try.underlying2 rfl (fun w M => (mem_own1 (n := 4) M rfl).rd) (by omega) (by omega)) ?_
                  refine hK363 _ _ (fun w M => (mem_erase 1 (mem_erase 2 (mem_erase 4 (mem_take 5 M))) :)) ?_
                  refine ga_op 10 (by kernel_rfl) rfl (.free rfl) fun K364 hK364 => ?_
                  refine go_q rfl rfl (qt_call rfl Try.func105 rfl (by decide) rfl (fun w M => then_any w _ _ _ _ (mem_rdC M h0) (by first | assumption | omega) (by first | assumption | omega) (by first | assumption | omega) (by first | assumption | omega))) ?_
                  refine hK364 _ _ (fun w M => (mem_erase 1 (mem_erase 2 (mem_erase 4 (mem_take 5 M))) :)) ?_
                  refine ga_op 11 (by kernel_rfl) rfl (.free rfl) fun K366 hK366 => ?_
                  refine go_clo 5 (L := [_, _, _, _, _]) (α := Option Addr) (β := Nat) rfl rfl rfl rfl Try.func158 rfl (by decide) rfl rfl rfl (fun w M => genAdd_any _ w _ _ _ _ _ _ _ _ _ _ _ (by first | exact hv.imp id (fun z => ⟨z.1, by omega⟩) | exact hw.imp id (fun z => ⟨z.1, by simp only [addB_len]; omega⟩) | (right; simp only [addB_len]; omega) | (right; omega)) (by first | (simp only [addB_len]; first | assumption | omega) | assumption | omega) (by first | omega | assumption) M) (fun _ _ => rfl) ?_
                  intro va365 vc365; simp only [List.take_succ_cons, List.take_zero, List.cons_append, List.nil_append]
                  refine hK366 _ _ (fun w M => (mem_erase 1 (mem_erase 2 (mem_erase 4 (mem_take 5 M))) :)) ?_
                  refine ga_done (by kernel_rfl) ?_
                  refine gk_pickL [0, 0, 0, 0, 0] ?_
                  refine gk_sub ?hs_367 (HJ46 (_, _))
                  case hs_367 => exact (sub_cons rfl (sub_cons rfl (sub_cons rfl (sub_cons rfl (sub_cons rfl (sub_cons rfl (sub_cons rfl (sub_cons rfl (sub_cons rfl (sub_cons rfl (sub_cons rfl (sub_cons rfl (sub_cons rfl (sub_cons rfl (sub_cons rfl sub_nil)))))))))))))))
              · refine go_v rfl rfl (qt_load1 rfl rfl Try.underlying2 rfl (fun w M => (mem_own1 (n := 4) M rfl).rd) (by omega) (by omega)) ?_
                refine hK353 _ _ (fun w M => (mem_erase 1 (mem_erase 2 (mem_erase 4 (mem_take 5 M))) :)) ?_
                refine ga_op 4 (by kernel_rfl) rfl (.free rfl) fun K369 hK369 => ?_
                refine go_v rfl rfl (qt_index rfl rfl rfl ulE1 szE1 (fun w M => lenA_own1 (n := 4) rfl M) (by omega) (by omega)) ?_
                refine hK369 _ _ (fun w M => (mem_erase 1 (mem_erase 2 (mem_erase 4 (mem_take 5 M))) :)) ?_
                refine ga_op 5 (by kernel_rfl) rfl (.free rfl) fun K370 hK370 => ?_
                refine go_v rfl rfl (qt_load1 rfl rfl Try.underlying2 rfl (fun w M => (mem_own1 (n := 4) M rfl).rd) (by omega) (by omega)) ?_
                refine hK370 _ _ (fun w M => (mem_erase 1 (mem_erase 2 (mem_erase 4 (mem_take 5 M))) :)) ?_
                refine ga_op 10 (by kernel_rfl) rfl (.free rfl) fun K371 hK371 => ?_
                refine go_q rfl rfl (qt_call rfl Try.func105 rfl (by decide) rfl (fun w M => then_any w _ _ _ _ (mem_rdC M h0) (by first | assumption | omega) (by first | assumption | omega) (by first | assumption | omega) (by first | assumption | omega))) ?_
                refine hK371 _ _ (fun w M => (mem_erase 1 (mem_erase 2 (mem_erase 4 (mem_take 5 M))) :)) ?_
                refine ga_op 11 (by kernel_rfl) rfl (.free rfl) fun K373 hK373 => ?_
                refine go_clo 5 (L := [_, _, _, _, _]) (α := Option Addr) (β := Nat) rfl rfl rfl rfl Try.func158 rfl (by decide) rfl rfl rfl (fun w M => genAdd_any _ w _ _ _ _ _ _ _ _ _ _ _ (by first | exact hv.imp id (fun z => ⟨z.1, by omega⟩) | exact hw.imp id (fun z => ⟨z.1, by simp only [addB_len]; omega⟩) | (right; simp only [addB_len]; omega) | (right; omega)) (by first | (simp only [addB_len]; first | assumption | omega) | assumption | omega) (by first | omega | assumption) M) (fun _ _ => rfl) ?_
                intro va372 vc372; simp only [List.take_succ_cons, List.take_zero, List.cons_append, List.nil_append]
                refine hK373 _ _ (fun w M => (mem_erase 1 (mem_erase 2 (mem_erase 4 (mem_take 5 M))) :)) ?_
                refine ga_done (by kernel_rfl) ?_
                refine gk_pickL [0, 0, 0, 0, 0] ?_
                refine gk_sub ?hs_374 (HJ46 (_, _))
                case hs_374 => exact (sub_cons rfl (sub_cons rfl (sub_cons rfl (sub_cons rfl (sub_cons rfl (sub_cons rfl (sub_cons rfl (sub_cons rfl (sub_cons rfl (sub_cons rfl (sub_cons rfl (sub_cons rfl (sub_cons rfl (sub_cons rfl (sub_cons rfl sub_nil)))))))))))))))
            · refine go_v rfl rfl (qt_load1 rfl rfl Try.underlying2 rfl (fun w M => (mem_own1 (n := 4) M rfl).rd) (by omega) (by omega)) ?_
              refine hK351 _ _ (fun w M => (mem_erase 1 (mem_erase 2 (mem_erase 4 (mem_take 5 M))) :)) ?_
              refine ga_op 2 (by kernel_rfl) rfl (.free rfl) fun K376 hK376 => ?_
              refine go_v rfl rfl (qt_loadB (n := 1) rfl rfl Try.underlying22 rfl rfl rfl) ?_
              refine hK376 _ _ (fun w M => (mem_erase 1 (mem_erase 2 (mem_erase 4 (mem_take 5 M))) :)) ?_
              refine ga_op 4 (by kernel_rfl) rfl (.free rfl) fun K377 hK377 => ?_
              refine go_v rfl rfl (qt_index rfl rfl rfl ulE1 szE1 (fun w M => lenA_own1 (n := 4) rfl M) (by omega) (by omega)) ?_
              refine hK377 _ _ (fun w M => (mem_erase 1 (mem_erase 2 (mem_erase 4 (mem_take 5 M))) :)) ?_
              refine ga_op 5 (by kernel_rfl) rfl (.free rfl) fun K378 hK378 => ?_
              refine go_v rfl rfl (qt_load1 rfl rfl Try.underlying2 rfl (fun w M => (mem_own1 (n := 4) M rfl).rd) (by omega) (by omega)) ?_
              refine hK378 _ _ (fun w M => (mem_erase 1 (mem_erase 2 (mem_erase 4 (mem_take 5 M))) :)) ?_
              refine ga_op 10 (by kernel_rfl) rfl (.free rfl) fun K379 hK379 => ?_
              refine go_q rfl rfl (qt_call rfl Try.func105 rfl (by decide) rfl (fun w M => then_any w _ _ _ _ (mem_rdC M h0) (by first | assumption | omega) (by first | assumption | omega) (by first | assumption | omega) (by first | assumption | omega))) ?_
              refine hK379 _ _ (fun w M => (mem_erase 1 (mem_erase 2 (mem_erase 4 (mem_take 5 M))) :)) ?_
              refine ga_op 11 (by kernel_rfl) rfl (.free rfl) fun K381 hK381 => ?_
              refine go_clo 5 (L := [_, _, _, _, _]) (α := Option Addr) (β := Nat) rfl rfl rfl rfl Try.func158 rfl (by decide) rfl rfl rfl (fun w M => genAdd_any _ w _ _ _ _ _ _ _ _ _ _ _ (by first | exact hv.imp id (fun z => ⟨z.1, by omega⟩) | exact hw.imp id (fun z => ⟨z.1, by simp only [addB_len]; omega⟩) | (right; simp only [addB_len]; omega) | (right; omega)) (by first | (simp only [addB_len]; first | assumption | omega) | assumption | omega) (by first | omega | assumption) M) (fun _ _ => rfl) ?_
              intro va380 vc380; simp only [List.take_succ_cons, List.take_zero, List.cons_append, List.nil_append]
              refine hK381 _ _ (fun w M => (mem_erase 1 (mem_erase 2 (mem_erase 4 (mem_take 5 M))) :)) ?_
              refine ga_done (by kernel_rfl) ?_
              refine gk_pickL [0, 0, 0, 0, 0] ?_
              refine gk_sub ?hs_382 (HJ46 (_, _))
              case hs_382 => exact (sub_cons rfl (sub_cons rfl (sub_cons rfl (sub_cons rfl (sub_cons rfl (sub_cons rfl (sub_cons rfl (sub_cons rfl (sub_cons rfl (sub_cons rfl (sub_cons rfl (sub_cons rfl (sub_cons rfl (sub_cons rfl (sub_cons rfl sub_nil)))))))))))))))
      · try simp only [decide_eq_true_eq, decide_eq_false_iff_not, Bool.not_eq_true', Bool.not_eq_false', Bool.not_eq_eq_eq_not, Bool.not_true, Bool.not_false, ne_eq, Decidable.not_not, Classical.not_not] at hc2
        refine gc_exit ?_
        refine gk_then_exit ?_
        refine gk_then_exit ?_
        refine gk_block_hit ?_
        refine gk_block ?_
        refine gk_then (hK39 _ _ ?_)
        refine gc_region ?_
        refine g_v (.free rfl) rfl rfl (qt_move rfl rfl) ?_
        refine g_v (.free rfl) rfl rfl (qt_add rfl rfl rfl (by omega)) ?_
        refine g_v (.free rfl) rfl rfl (qt_assign rfl rfl) ?_
        refine g_nil ?_
        refine gk_then (gk_take 5 ?_)
        refine gk_sub ?hs_383 (hKL36 (i + 1, bs2, fs2, b2, q2) ?hi_383 ?hm_383)
        case hs_383 => exact (sub_cons rfl (sub_cons rfl (sub_cons rfl (sub_cons rfl (sub_cons rfl (sub_cons rfl (sub_cons rfl (sub_cons rfl (sub_cons rfl (sub_cons rfl (sub_cons rfl (sub_cons rfl sub_nil))))))))))))
        case hi_383 => have e : j = i + 1 := (by omega); subst e; exact ⟨(by show i + 1 ≤ fs2.length; omega), hgi2, hsd2, doneF_row hdn2⟩
        case hm_383 => omega
    · try simp only [decide_eq_true_eq, decide_eq_false_iff_not, Bool.not_eq_true', Bool.not_eq_false', Bool.not_eq_eq_eq_not, Bool.not_true, Bool.not_false, ne_eq, Decidable.not_not, Classical.not_not] at hc1
      refine gc_exit ?_
      refine gk_then_exit ?_
      refine gk_then_exit ?_
      refine gk_block_hit ?_
      refine gk_then (hK34 _ _ ?_)
      refine gc_seq fun K384 hK384 => ?_
      refine gc_region ?_
      refine g_v (.free rfl) rfl rfl (qt_loadB (n := 1) rfl rfl Try.underlying22 rfl rfl rfl) ?_
      refine g_op (.free rfl) fun K386 hK386 => ?_
      refine go_sort (n := 4) rfl rfl rfl Try.func160 rfl (by decide) rfl rfl rfl ?_
      refine hK386 _ _ ?_
      refine g_nil ?_
      refine gk_then (hK384 _ _ ?_)
      refine gc_seq fun K387 hK387 => ?_
      refine gc_region ?_
      refine g_v (.free rfl) rfl rfl (qt_loadB (n := 1) rfl rfl Try.underlying22 rfl rfl rfl) ?_
      refine g_v (.free rfl) rfl rfl (qt_assign rfl rfl) ?_
      refine g_nil ?_
      refine gk_then (hK387 _ _ ?_)
      refine gc_ret ?_
      refine ret_1 rfl rfl  (fun w M => ?_)
      obtain rfl : i = fs1.length := by omega
      rw [← gi_sorted hS hx hgi1 hsd1 hdn1]
      exact ⟨_, rfl, mem_own1 (n := 4) M rfl, M.1⟩

end Go.Proofs.Ytpfcfhjpgngneaa
