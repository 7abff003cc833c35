
/- Arrows that are cancelled jointly: both sides. -/
import Derived.Test.YtloaikmiofdhnabKinS
import Derived.Test.YtloaikmiofdhnabKinI
import Derived.Test.YtloaikmiofdhnabKinW
import Derived.Test.YtloaikmiofdhnabFvL
import Derived.Test.YtloaikmiofdhnabLib3
import Derived.Test.YtloaikmiofdhnabOppS
set_option linter.unusedSimpArgs false
set_option linter.unusedVariables false
set_option linter.unusedSectionVars false
namespace Go.Proofs.Ytloaikmiofdhnab
open Go.RowKit


section
variable {w0 : World} {is : List Itm} {Q : Exit → Act → World → Prop} {o : Oper} {N n : Nat} {e : Env} {v : Value} {d : Nat} {K : Act → World → Prop} {f : FuncId} {fn : Func} {ags : Array Operand} {ts : Array TypeId}
theorem go_sort5 {xs : List Int} (hd : o.dst = some d) (hN : Nat.blt d N = true) (hop : o.op = .call { callee := .value (.func f), args := ags, argTypes := ts }) (hfn : Try.prog.funcs[f]? = some fn) (hb : fn.body.isNone = false) (hnm : (fn.name == "runtime.NumGoroutine") = false)
    (hargs : evoL e ags.toList = some [v]) (hf : f = 131) (hi : is[n]? = some (own1I v xs)) (hk : GK w0 (is.set n (own1I v (xs.mergeSort fun x y => decide (x ≤ y)))) N K ((d, .tuple #[]) :: e)) : GO w0 is N o e Q K := by
  subst hf
  intro w a M F
  obtain ⟨S, hS, h1, hset⟩ := mem_set M hi
  refine go_call hd hN F hop hfn hb hnm hargs (sort_any w 0 v xs h1.1) fun e' w' hR => ?_
  obtain ⟨rfl, hs, hg⟩ := hR
  exact ⟨_, rfl, fun a F => hk w' a (hset w' (own1I v _) (frS_grown hg h1.2) ⟨hs, fun q hq => .inl (h1.2 q hq)⟩) F⟩
end
theorem compact5_any (w : World) (base : Nat) (v : Value) (zs : List Int) (h : Sl w base v zs) :
    Calls Try.prog 132 #[v] w (fun e w' => ∃ v', e = .returned v' ∧ Sl w' base v' (Lib.compact zs) ∧ w.grownBy w' v.ownBlock ∧ v'.ownBlock = v.ownBlock) := by
  have hl := h.2
  have hcap : ∀ a n cap, v = .slice a n cap → zs.length ≤ cap := fun a n cap e => by
    subst e
    rcases h.1.2 with ⟨hv, hn⟩ | ⟨g', cap', cur, hv, _, _, hnc, _⟩
    · omega
    · simp only [Value.slice.injEq] at hv
      rw [hv.2.2]; exact hnc
  obtain ⟨a, cap, rfl, hf⟩ := sl_form h
  by_cases h0 : zs.length = 0
  · obtain rfl : zs = [] := List.eq_nil_of_length_eq_zero h0
    refine (Try.slices_Compact_int_empty a cap w).mono ?_
    rintro e w' ⟨rfl, rfl⟩
    exact ⟨_, rfl, h, grown_refl _ _, rfl⟩
  · obtain ⟨g, rfl⟩ := hf 0 (by omega)
    refine (Try.slices_Compact_int g 0 cap zs w (holds_of h) (by omega) (hcap _ _ _ rfl)).mono ?_
    rintro e w' ⟨rfl, q, rfl⟩
    have hcl := compact_len zs
    have hs := sl_put h (ys := Lib.compact zs ++ List.replicate (zs.length - (Lib.compact zs).length) 0) (by simp; omega) q #[]
    rw [Sort.grow_empty] at hs
    exact ⟨_, rfl, sl_prefix hs.1, hs.2, rfl⟩
section
variable {w0 : World} {is : List Itm} {Q : Exit → Act → World → Prop} {o : Oper} {N n : Nat} {e : Env} {v : Value} {d : Nat} {K : Act → World → Prop} {f : FuncId} {fn : Func} {ags : Array Operand} {ts : Array TypeId}
theorem go_compact5 {xs : List Int} (hd : o.dst = some d) (hN : Nat.blt d N = true) (hop : o.op = .call { callee := .value (.func f), args := ags, argTypes := ts }) (hfn : Try.prog.funcs[f]? = some fn) (hb : fn.body.isNone = false) (hnm : (fn.name == "runtime.NumGoroutine") = false)
    (hargs : evoL e ags.toList = some [v]) (hf : f = 132) (hi : is[n]? = some (own1I v xs)) (hk : ∀ a cap, GK w0 (is.set n (own1I (.slice a (Lib.compact xs).length cap) (Lib.compact xs))) N K ((d, .slice a (Lib.compact xs).length cap) :: e)) : GO w0 is N o e Q K := by
  subst hf
  intro w a M F
  obtain ⟨S, hS, h1, hset⟩ := mem_set M hi
  refine go_call hd hN F hop hfn hb hnm hargs (compact5_any w 0 v xs h1.1) fun e' w' hR => ?_
  obtain ⟨v', rfl, hs, hg, ho⟩ := hR
  obtain ⟨va, vc, rfl⟩ := rd_form hs.rd
  exact ⟨_, rfl, fun a F => hk va vc w' a (hset w' (own1I _ _) (frS_grown hg h1.2) ⟨hs, fun q hq => .inl (h1.2 q (by rw [← ho]; exact hq))⟩) F⟩
end
noncomputable def listErr (c : Cat) (fs : List Int) : Int := if arrErr c fs = 0 then (if fs = [] then 5 else 0) else arrErr c fs
theorem listErr_a {c : Cat} {fs : List Int} (h : ¬ arrErr c fs = 0) : listErr c fs = arrErr c fs := if_neg h
theorem listErr_n {c : Cat} {fs : List Int} (h : arrErr c fs = 0) (h2 : fs = []) : listErr c fs = 5 := by unfold listErr; rw [if_pos h, if_pos h2]
theorem listErr_z {c : Cat} {fs : List Int} (h : arrErr c fs = 0) (h2 : ¬ fs = []) : listErr c fs = 0 := by unfold listErr; rw [if_pos h, if_neg h2]
theorem listErr_0 {c : Cat} {fs : List Int} (h : listErr c fs = 0) : arrErr c fs = 0 ∧ ¬ fs = [] := by
  by_cases ha : arrErr c fs = 0
  · refine ⟨ha, fun h2 => ?_⟩
    rw [listErr_n ha h2] at h; cases h
  · rw [listErr_a ha] at h; exact absurd h ha
theorem famErr_n {es fs : List Int} (h : fs = []) : famErr es fs = 5 := if_pos h
theorem famErr_e {es fs : List Int} (h : ¬ fs = []) (h2 : ¬ endsP es fs) : famErr es fs = 5 := by unfold famErr; rw [if_neg h, if_neg (by rw [bP_f h2]; decide)]
theorem famErr_z {es fs : List Int} (h : ¬ fs = []) (h2 : endsP es fs) : famErr es fs = 0 := by unfold famErr; rw [if_neg h, if_pos (bP_t h2)]
theorem famErr_0 {es fs : List Int} (h : famErr es fs = 0) : ¬ fs = [] ∧ endsP es fs := by
  by_cases h1 : fs = []
  · rw [famErr_n h1] at h; cases h
  · by_cases h2 : endsP es fs
    · exact ⟨h1, h2⟩
    · rw [famErr_e h1 h2] at h; cases h
theorem famErr_5 {es fs : List Int} (h : ¬ famErr es fs = 0) : famErr es fs = 5 := by
  by_cases h1 : fs = []
  · exact famErr_n h1
  · by_cases h2 : endsP es fs
    · exact absurd (famErr_z h1 h2) h
    · exact famErr_e h1 h2
/-- What is found for a list with its errors, by a test of its ends and an answer. -/
noncomputable def jAns (c : Cat) (es fs : List Int) (p : Prop) : Bool × Int := if arrErr c fs = 0 then (if famErr es fs = 0 then (bP p, 0) else (false, 5)) else (false, arrErr c fs)
theorem jAns_a {c : Cat} {es fs : List Int} {p : Prop} (h : ¬ arrErr c fs = 0) : jAns c es fs p = (false, arrErr c fs) := if_neg h
theorem jAns_f {c : Cat} {es fs : List Int} {p : Prop} (h : arrErr c fs = 0) (h2 : ¬ famErr es fs = 0) : jAns c es fs p = (false, 5) := by unfold jAns; rw [if_pos h, if_neg h2]
theorem jAns_t {c : Cat} {es fs : List Int} {p : Prop} (h : arrErr c fs = 0) (h2 : famErr es fs = 0) : jAns c es fs p = (bP p, 0) := by unfold jAns; rw [if_pos h, if_pos h2]
theorem jAns_l {c : Cat} {es fs : List Int} {p : Prop} (hne : ¬ listErr c fs = 0) : jAns c es fs p = (false, listErr c fs) := by
  by_cases hA : arrErr c fs = 0
  · have he : fs = [] := Classical.byContradiction fun h => hne (listErr_z hA h)
    rw [jAns_f hA (by rw [famErr_n he]; decide), listErr_n hA he]
  · rw [jAns_a hA, listErr_a hA]
theorem jMono_eq (c : Cat) (fs : List Int) : fIsJointlyMono c fs = jAns c c.s fs (joinP c fs) := rfl
theorem jEpi_eq (c : Cat) (fs : List Int) : fIsJointlyEpi c fs = jAns c c.t fs (jeinP c fs) := rfl
theorem pos_ne {fs : List Int} (h : ¬ fs = []) : 0 < fs.length := List.length_pos_iff.2 h
def okJ (c : Cat) (fs : List Int) (g h j : Nat) : Prop := (at0 c.s g = at0 c.s h ∧ at0 c.t g = at0 c.t h ∧ at0 c.t g = at0 c.s (at0 fs 0)) ∧ ∀ i : Nat, i < j → c.th g (at0 fs (i : Int)) = c.th h (at0 fs (i : Int))
theorem badJ_of {c : Cat} {fs : List Int} {g h j : Nat} {b : Bool} (hj : j ≤ fs.length) (h1 : b = true → okJ c fs g h j) (hb : b = true) (h2 : ¬ (j < fs.length) ∨ b = false) : badJ c fs g h := by
  rcases h2 with h2 | h2
  · obtain rfl : j = fs.length := by omega
    exact h1 hb
  · rw [hb] at h2; cases h2
theorem okJ_next {c : Cat} {fs : List Int} {g h j : Nat} (H : okJ c fs g h j) (hn : c.th g (at0 fs (j : Int)) = c.th h (at0 fs (j : Int))) : okJ c fs g h (j + 1) := ⟨H.1, all_next H.2 hn⟩

set_option maxHeartbeats 1000000 in
set_option maxRecDepth 100000 in
theorem l05List_any (w : World) (v : Value) (c : Cat) (u : Value) (fs : List Int) (h : RdC w v c) (hu : Rd w u fs) :
    Calls Try.prog 66 #[v, u] w (RetI w (listErr c fs)) := by
  have h0 := h
  obtain ⟨va, vb, vc, vd, ve, vf, vg, vh, rfl, h1, h2, h3, h4, _⟩ := h.lists
  obtain ⟨ua, uc, rfl⟩ := rd_form hu
  go_enter Try.func66, Try.ntmps66
  refine gc_enter (N := 20) rfl (look_cons (k := 0) rfl (look_cons (k := 1) rfl (look_nil _))) ?_
  refine gc_seq fun K1 hK1 => ?_
  refine gc_region ?_
  refine g_op (.free rfl) fun K3 hK3 => ?_
  refine go_box rfl rfl rfl rfl rfl ?_
  intro B2
  refine hK3 _ _ ?_
  refine g_v (.free rfl) rfl rfl (qt_assign rfl rfl) ?_
  refine g_nil ?_
  refine gk_then (hK1 _ _ ?_)
  refine gc_seq fun K4 hK4 => ?_
  refine gc_block ?_
  refine gc_seq fun K5 hK5 => ?_
  refine gc_region ?_
  refine g_v (.free rfl) rfl rfl (qt_loadS (n := 0) rfl rfl Try.underlying29 rfl (by kernel_rfl) rfl) ?_
  refine g_q (.free rfl) rfl rfl (qt_call rfl Try.func76 rfl (by decide) rfl (fun w M => specIs_any w _ _ (mem_rdC M h0))) ?_
  refine g_v (.free rfl) rfl rfl (qt_not rfl rfl) ?_
  refine g_v (.free rfl) rfl rfl (qt_assign rfl rfl) ?_
  refine g_nil ?_
  refine gk_then (hK5 _ _ ?_)
  refine gc_cond rfl (fun hc0 => ?_) (fun hc0 => ?_)
  · try simp only [decide_eq_true_eq, decide_eq_false_iff_not, Bool.not_eq_true', Bool.not_eq_false', Bool.not_eq_eq_eq_not, Bool.not_true, Bool.not_false, ne_eq, Decidable.not_not, Classical.not_not] at hc0
    refine gc_seq fun K6 hK6 => ?_
    refine gc_region ?_
    refine g_v (.free rfl) rfl rfl (qt_assign rfl rfl) ?_
    refine g_nil ?_
    refine gk_then (hK6 _ _ ?_)
    refine gc_ret ?_
    refine gk_block_ret ?_
    refine gk_then_ret ?_
    refine ret_1 rfl rfl  (fun w M => ?_)
    rw [listErr_a (by rw [arrErr_f hc0]; decide), arrErr_f hc0]; exact ⟨rfl, M.1⟩
  · try simp only [decide_eq_true_eq, decide_eq_false_iff_not, Bool.not_eq_true', Bool.not_eq_false', Bool.not_eq_eq_eq_not, Bool.not_true, Bool.not_false, ne_eq, Decidable.not_not, Classical.not_not] at hc0
    refine gc_seq fun K7 hK7 => ?_
    refine gc_region ?_
    refine g_v (.free rfl) rfl rfl (qt_field (z := 0) (off := 1) rfl rfl Try.underlying29 rfl (by kernel_rfl) rfl) ?_
    refine g_v (.free rfl) rfl rfl (qt_loadB (n := 0) rfl rfl Try.underlying22 rfl rfl rfl) ?_
    refine g_v (.free rfl) rfl rfl (qt_len rfl rfl ulE1 (fun w M => lenV_rd h1)) ?_
    refine g_v (.free rfl) rfl rfl (qt_move rfl rfl) ?_
    refine g_q (.free rfl) rfl rfl (qt_call rfl Try.func119 rfl (by decide) rfl (fun w M => specMap_any w _ _ _ _ (mem_rd M hu) rfl)) ?_
    refine g_v (.free rfl) rfl rfl (qt_not rfl rfl) ?_
    refine g_v (.free rfl) rfl rfl (qt_assign rfl rfl) ?_
    refine g_nil ?_
    refine gk_then (hK7 _ _ ?_)
    refine gc_cond rfl (fun hc1 => ?_) (fun hc1 => ?_)
    · try simp only [decide_eq_true_eq, decide_eq_false_iff_not, Bool.not_eq_true', Bool.not_eq_false', Bool.not_eq_eq_eq_not, Bool.not_true, Bool.not_false, ne_eq, Decidable.not_not, Classical.not_not] at hc1
      refine gc_seq fun K8 hK8 => ?_
      refine gc_region ?_
      refine g_v (.free rfl) rfl rfl (qt_assign rfl rfl) ?_
      refine g_nil ?_
      refine gk_then (hK8 _ _ ?_)
      refine gc_ret ?_
      refine gk_block_ret ?_
      refine gk_then_ret ?_
      refine ret_1 rfl rfl  (fun w M => ?_)
      rw [listErr_a (by rw [arrErr_r hc0 hc1]; decide), arrErr_r hc0 hc1]; exact ⟨rfl, M.1⟩
    · try simp only [decide_eq_true_eq, decide_eq_false_iff_not, Bool.not_eq_true', Bool.not_eq_false', Bool.not_eq_eq_eq_not, Bool.not_true, Bool.not_false, ne_eq, Decidable.not_not, Classical.not_not] at hc1
      refine gc_seq fun K9 hK9 => ?_
      refine gc_region ?_
      refine g_v (.free rfl) rfl rfl (qt_move rfl rfl) ?_
      refine g_v (.free rfl) rfl rfl (qt_len rfl rfl ulE1 (fun w M => lenV_rd hu)) ?_
      refine g_v (.free rfl) rfl rfl (qt_eql rfl rfl rfl) ?_
      refine g_v (.free rfl) rfl rfl (qt_assign rfl rfl) ?_
      refine g_nil ?_
      refine gk_then (hK9 _ _ ?_)
      refine gc_cond rfl (fun hc2 => ?_) (fun hc2 => ?_)
      · try simp only [decide_eq_true_eq, decide_eq_false_iff_not, Bool.not_eq_true', Bool.not_eq_false', Bool.not_eq_eq_eq_not, Bool.not_true, Bool.not_false, ne_eq, Decidable.not_not, Classical.not_not] at hc2
        refine gc_seq fun K10 hK10 => ?_
        refine gc_region ?_
        refine g_v (.free rfl) rfl rfl (qt_assign rfl rfl) ?_
        refine g_nil ?_
        refine gk_then (hK10 _ _ ?_)
        refine gc_ret ?_
        refine gk_block_ret ?_
        refine gk_then_ret ?_
        refine ret_1 rfl rfl  (fun w M => ?_)
        have he : fs = [] := List.eq_nil_of_length_eq_zero (by omega)
        rw [listErr_n (arrErr_t hc0 hc1) he]; exact ⟨rfl, M.1⟩
      · try simp only [decide_eq_true_eq, decide_eq_false_iff_not, Bool.not_eq_true', Bool.not_eq_false', Bool.not_eq_eq_eq_not, Bool.not_true, Bool.not_false, ne_eq, Decidable.not_not, Classical.not_not] at hc2
        refine gc_skip ?_
        refine gk_block ?_
        refine gk_then (hK4 _ _ ?_)
        refine gc_seq fun K11 hK11 => ?_
        refine gc_region ?_
        refine g_v (.free rfl) rfl rfl (qt_assign rfl rfl) ?_
        refine g_nil ?_
        refine gk_then (hK11 _ _ ?_)
        refine gc_ret ?_
        refine ret_1 rfl rfl  (fun w M => ?_)
        have he : ¬ fs = [] := fun h => by rw [h] at hc2; exact hc2 rfl
        rw [listErr_z (arrErr_t hc0 hc1) he]; exact ⟨rfl, M.1⟩

set_option maxHeartbeats 1000000 in
set_option maxRecDepth 100000 in
theorem l05Ends_any (w : World) (ue : Value) (es : List Int) (u : Value) (fs : List Int) (he : Rd w ue es) (hu : Rd w u fs) (hx : AllP es.length fs) (hne : ¬ fs = []) :
    Calls Try.prog 67 #[ue, u] w (RetB w (bP (endsP es fs))) := by
  obtain ⟨uea, uec, rfl⟩ := rd_form he
  obtain ⟨ua, uc, rfl⟩ := rd_form hu
  have hul : fs.length ≤ 17592186044415 := by obtain ⟨_, _, _, hl, _⟩ := hu; exact hl
  have hp := pos_ne hne
  have hx0 : 0 ≤ at0 fs 0 ∧ at0 fs 0 < es.length := allP_at hx (k := 0) hp
  go_enter Try.func67, Try.ntmps67
  refine gc_enter (N := 26) rfl (look_cons (k := 0) rfl (look_cons (k := 1) rfl (look_nil _))) ?_
  refine gc_seq fun K1 hK1 => ?_
  refine gc_region ?_
  refine g_v (.free rfl) rfl rfl (qt_assign rfl rfl) ?_
  refine g_nil ?_
  refine gk_then (hK1 _ _ ?_)
  refine gc_seq fun K2 hK2 => ?_
  refine gc_seq fun K3 hK3 => ?_
  refine gc_region ?_
  refine g_v (.free rfl) rfl rfl (qt_assign rfl rfl) ?_
  refine g_nil ?_
  refine gk_then (hK3 _ _ ?_)
  refine gc_block ?_
  try simp only [List.nil_append, List.cons_append, List.append_assoc, List.set_cons_succ, List.set_cons_zero]
  refine gc_loop ([(0, _), (1, _)] : Env) (fun s : Nat => (fun (k : Nat) => ([(5, .int .i64 (k : Int))] : Env)) s) (fun s : Nat => (fun (k : Nat) => ([] : List (Nat × Itm))) s) (fun s : Nat => (fun (k : Nat) => 1 ≤ k ∧ k ≤ fs.length ∧ ∀ j : Nat, j < k → at0 es (at0 fs (j : Int)) = at0 es (at0 fs 0)) s) (fun s : Nat => (fun (k : Nat) => fs.length - k) s) (1) (sub_cons rfl (sub_cons rfl (sub_cons rfl sub_nil))) rfl ⟨Nat.le_refl _, hp, fun j hj => by obtain rfl : j = 0 := (by omega); rfl⟩ ?_
  rintro k hinv KL4 hKL4
  simp only [updL, List.foldl_cons, List.foldl_nil, List.set_cons_succ, List.set_cons_zero, List.cons_append, List.nil_append] at hinv hKL4 ⊢
  obtain ⟨hk0, hk, hall⟩ := hinv
  refine gc_seq fun K5 hK5 => ?_
  refine gc_seq fun K6 hK6 => ?_
  refine gc_region ?_
  refine g_v (.free rfl) rfl rfl (qt_move rfl rfl) ?_
  refine g_v (.free rfl) rfl rfl (qt_move rfl rfl) ?_
  refine g_v (.free rfl) rfl rfl (qt_len rfl rfl ulE1 (fun w M => lenV_rd hu)) ?_
  refine g_v (.free rfl) rfl rfl (qt_lss rfl rfl rfl) ?_
  refine g_nil ?_
  refine gk_then (hK6 _ _ ?_)
  refine gc_cond rfl (fun hc0 => ?_) (fun hc0 => ?_)
  · try simp only [decide_eq_true_eq, decide_eq_false_iff_not, Bool.not_eq_true', Bool.not_eq_false', Bool.not_eq_eq_eq_not, Bool.not_true, Bool.not_false, ne_eq, Decidable.not_not, Classical.not_not] at hc0
    refine gc_skip ?_
    refine gk_then (hK5 _ _ ?_)
    refine gc_seq fun K7 hK7 => ?_
    refine gc_block ?_
    refine gc_seq fun K8 hK8 => ?_
    have hq := allP_at hx (k := k) (by omega)
    refine gc_draw (by kernel_rfl) ?_
    refine gd_v (.free rfl) rfl rfl (qt_move rfl rfl) ?_
    refine gd_v (.free rfl) rfl rfl (qt_move rfl rfl) ?_
    refine gd_v (.free rfl) rfl rfl (qt_move rfl rfl) ?_
    refine gd_v (.free rfl) rfl rfl (qt_index rfl rfl rfl ulE1 szE1 (fun w M => lenA_rd hu) (by omega) (by omega)) ?_
    refine gd_v (.free rfl) rfl rfl (qt_load1 rfl rfl Try.underlying2 rfl (fun w M => mem_rd M hu) (by omega) (by omega)) ?_
    refine gd_v (.free rfl) rfl rfl (qt_index rfl rfl rfl ulE1 szE1 (fun w M => lenA_rd he) (by omega) (by omega)) ?_
    refine gd_v (.free rfl) rfl rfl (qt_load1 rfl rfl Try.underlying2 rfl (fun w M => mem_rd M he) (by omega) (by omega)) ?_
    refine gd_v (.free rfl) rfl rfl (qt_move rfl rfl) ?_
    refine gd_v (.free rfl) rfl rfl (qt_move rfl rfl) ?_
    refine gd_v (.free rfl) rfl rfl (qt_index rfl rfl rfl ulE1 szE1 (fun w M => lenA_rd hu) (by omega) (by omega)) ?_
    refine gd_v (.free rfl) rfl rfl (qt_load1 rfl rfl Try.underlying2 rfl (fun w M => mem_rd M hu) (by omega) (by omega)) ?_
    refine gd_v (.free rfl) rfl rfl (qt_index rfl rfl rfl ulE1 szE1 (fun w M => lenA_rd he) (by omega) (by omega)) ?_
    refine gd_v (.free rfl) rfl rfl (qt_load1 rfl rfl Try.underlying2 rfl (fun w M => mem_rd M he) (by omega) (by omega)) ?_
    refine gd_v (.free rfl) rfl rfl (qt_neq rfl rfl rfl) ?_
    refine gd_nil ?_
    refine gk_then (hK8 _ _ ?_)
    refine gc_cond rfl (fun hc1 => ?_) (fun hc1 => ?_)
    · try simp only [decide_eq_true_eq, decide_eq_false_iff_not, Bool.not_eq_true', Bool.not_eq_false', Bool.not_eq_eq_eq_not, Bool.not_true, Bool.not_false, ne_eq, Decidable.not_not, Classical.not_not] at hc1
      refine gc_seq fun K9 hK9 => ?_
      refine gc_region ?_
      refine g_v (.free rfl) rfl rfl (qt_assign rfl rfl) ?_
      refine g_nil ?_
      refine gk_then (hK9 _ _ ?_)
      refine gc_ret ?_
      refine gk_block_ret ?_
      refine gk_then_ret ?_
      refine gk_then_ret ?_
      refine gk_block_ret ?_
      refine gk_then_ret ?_
      refine ret_1 rfl rfl  (fun w M => ?_)
      rw [bP_f (fun h : endsP es fs => hc1 (h k (by omega)))]; exact ⟨rfl, M.1⟩
    · try simp only [decide_eq_true_eq, decide_eq_false_iff_not, Bool.not_eq_true', Bool.not_eq_false', Bool.not_eq_eq_eq_not, Bool.not_true, Bool.not_false, ne_eq, Decidable.not_not, Classical.not_not] at hc1
      refine gc_skip ?_
      refine gk_block ?_
      refine gk_then (hK7 _ _ ?_)
      refine gc_region ?_
      refine g_v (.free rfl) rfl rfl (qt_move rfl rfl) ?_
      refine g_v (.free rfl) rfl rfl (qt_add rfl rfl rfl (by omega)) ?_
      refine g_v (.free rfl) rfl rfl (qt_assign rfl rfl) ?_
      refine g_nil ?_
      refine gk_then (gk_take 0 ?_)
      refine gk_sub ?hs_10 (hKL4 (k + 1) ?hi_10 ?hm_10)
      case hs_10 => exact (sub_cons rfl (sub_cons rfl (sub_cons rfl sub_nil)))
      case hi_10 => exact ⟨by omega, by omega, all_next hall hc1⟩
      case hm_10 => omega
  · try simp only [decide_eq_true_eq, decide_eq_false_iff_not, Bool.not_eq_true', Bool.not_eq_false', Bool.not_eq_eq_eq_not, Bool.not_true, Bool.not_false, ne_eq, Decidable.not_not, Classical.not_not] at hc0
    refine gc_exit ?_
    refine gk_then_exit ?_
    refine gk_then_exit ?_
    refine gk_block_hit ?_
    refine gk_then (hK2 _ _ ?_)
    refine gc_seq fun K11 hK11 => ?_
    refine gc_region ?_
    refine g_v (.free rfl) rfl rfl (qt_assign rfl rfl) ?_
    refine g_nil ?_
    refine gk_then (hK11 _ _ ?_)
    refine gc_ret ?_
    refine ret_1 rfl rfl  (fun w M => ?_)
    obtain rfl : k = fs.length := by omega
    rw [bP_t (show endsP es fs from hall)]; exact ⟨rfl, M.1⟩

set_option maxHeartbeats 4000000 in
set_option maxRecDepth 100000 in
theorem specJoint_any (w : World) (v : Value) (c : Cat) (u : Value) (fs : List Int) (h : RdC w v c) (hu : Rd w u fs) (hS : ShapeP c) (hx : AllP c.s.length fs) (hne : ¬ fs = []) (hes : endsP c.s fs) :
    Calls Try.prog 68 #[v, u] w (RetB w (bP (joinP c fs))) := by
  have h0 := h
  obtain ⟨va, vb, vc, vd, ve, vf, vg, vh, rfl, h1, h2, h3, h4, _⟩ := h.lists
  obtain ⟨ua, uc, rfl⟩ := rd_form hu
  have hul : fs.length ≤ 17592186044415 := by obtain ⟨_, _, _, hl, _⟩ := hu; exact hl
  have hp := pos_ne hne
  have hx0 : 0 ≤ at0 fs 0 ∧ at0 fs 0 < c.s.length := allP_at hx (k := 0) hp
  have hn40 := hS.n40; have htl := hS.tl; have hml := hS.ml
  go_enter Try.func68, Try.ntmps68
  refine gc_enter (N := 97) rfl (look_cons (k := 0) rfl (look_cons (k := 1) rfl (look_nil _))) ?_
  refine gc_seq fun K1 hK1 => ?_
  refine gc_region ?_
  refine g_op (.free rfl) fun K3 hK3 => ?_
  refine go_box rfl rfl rfl rfl rfl ?_
  intro B2
  refine hK3 _ _ ?_
  refine g_v (.free rfl) rfl rfl (qt_assign rfl rfl) ?_
  refine g_nil ?_
  refine gk_then (hK1 _ _ ?_)
  refine gc_seq fun K4 hK4 => ?_
  refine gc_seq fun K5 hK5 => ?_
  refine gc_region ?_
  refine g_v (.free rfl) rfl rfl (qt_assign rfl rfl) ?_
  refine g_nil ?_
  refine gk_then (hK5 _ _ ?_)
  refine gc_block ?_
  try simp only [List.nil_append, List.cons_append, List.append_assoc, List.set_cons_succ, List.set_cons_zero]
  refine gc_loop ([(0, _), (1, _), (2, _)] : Env) (fun s : Nat => (fun (k : Nat) => ([(5, .int .i64 (k : Int))] : Env)) s) (fun s : Nat => (fun (k : Nat) => ([] : List (Nat × Itm))) s) (fun s : Nat => (fun (k : Nat) => k ≤ c.s.length ∧ noB (badJ c fs) c.s.length k 0) s) (fun s : Nat => (fun (k : Nat) => c.s.length - k) s) (0) (sub_cons rfl (sub_cons rfl (sub_cons rfl (sub_cons rfl sub_nil)))) rfl ⟨Nat.zero_le _, noB_zero _ _⟩ ?_
  rintro k hinv KL6 hKL6
  simp only [updL, List.foldl_cons, List.foldl_nil, List.set_cons_succ, List.set_cons_zero, List.cons_append, List.nil_append] at hinv hKL6 ⊢
  obtain ⟨hk, hno⟩ := hinv
  refine gc_seq fun K7 hK7 => ?_
  refine gc_seq fun K8 hK8 => ?_
  refine gc_region ?_
  refine g_v (.free rfl) rfl rfl (qt_move rfl rfl) ?_
  refine g_v (.free rfl) rfl rfl (qt_field (z := 0) (off := 1) rfl rfl Try.underlying29 rfl (by kernel_rfl) rfl) ?_
  refine g_v (.free rfl) rfl rfl (qt_loadB (n := 0) rfl rfl Try.underlying22 rfl rfl rfl) ?_
  refine g_v (.free rfl) rfl rfl (qt_len rfl rfl ulE1 (fun w M => lenV_rd h1)) ?_
  refine g_v (.free rfl) rfl rfl (qt_lss rfl rfl rfl) ?_
  refine g_nil ?_
  refine gk_then (hK8 _ _ ?_)
  refine gc_cond rfl (fun hc0 => ?_) (fun hc0 => ?_)
  · try simp only [decide_eq_true_eq, decide_eq_false_iff_not, Bool.not_eq_true', Bool.not_eq_false', Bool.not_eq_eq_eq_not, Bool.not_true, Bool.not_false, ne_eq, Decidable.not_not, Classical.not_not] at hc0
    refine gc_skip ?_
    refine gk_then (hK7 _ _ ?_)
    refine gc_seq fun K9 hK9 => ?_
    refine gc_block ?_
    refine gc_seq fun K10 hK10 => ?_
    refine gc_region ?_
    refine g_v (.free rfl) rfl rfl (qt_move rfl rfl) ?_
    refine g_v (.free rfl) rfl rfl (qt_add rfl rfl rfl (by omega)) ?_
    refine g_v (.free rfl) rfl rfl (qt_assign rfl rfl) ?_
    refine g_nil ?_
    refine gk_then (hK10 _ _ ?_)
    refine gc_block ?_
    try simp only [List.nil_append, List.cons_append, List.append_assoc, List.set_cons_succ, List.set_cons_zero]
    refine gc_loop ([(0, _), (1, _), (2, _), (5, _), (13, _)] : Env) (fun s : Nat => (fun (l : Nat) => ([(6, .int .i64 (l : Int))] : Env)) s) (fun s : Nat => (fun (l : Nat) => ([] : List (Nat × Itm))) s) (fun s : Nat => (fun (l : Nat) => k + 1 ≤ l ∧ l ≤ c.s.length ∧ noB (badJ c fs) c.s.length k l) s) (fun s : Nat => (fun (l : Nat) => c.s.length - l) s) (k + 1) (sub_cons rfl (sub_cons rfl (sub_cons rfl (sub_cons rfl (sub_cons rfl (sub_cons rfl sub_nil)))))) rfl ⟨Nat.le_refl _, by omega, noB_row hno⟩ ?_
    rintro l hinv KL11 hKL11
    simp only [updL, List.foldl_cons, List.foldl_nil, List.set_cons_succ, List.set_cons_zero, List.cons_append, List.nil_append] at hinv hKL11 ⊢
    obtain ⟨hl0, hl1, hno1⟩ := hinv
    refine gc_seq fun K12 hK12 => ?_
    refine gc_seq fun K13 hK13 => ?_
    refine gc_region ?_
    refine g_v (.free rfl) rfl rfl (qt_move rfl rfl) ?_
    refine g_v (.free rfl) rfl rfl (qt_field (z := 0) (off := 1) rfl rfl Try.underlying29 rfl (by kernel_rfl) rfl) ?_
    refine g_v (.free rfl) rfl rfl (qt_loadB (n := 0) rfl rfl Try.underlying22 rfl rfl rfl) ?_
    refine g_v (.free rfl) rfl rfl (qt_len rfl rfl ulE1 (fun w M => lenV_rd h1)) ?_
    refine g_v (.free rfl) rfl rfl (qt_lss rfl rfl rfl) ?_
    refine g_nil ?_
    refine gk_then (hK13 _ _ ?_)
    refine gc_cond rfl (fun hc1 => ?_) (fun hc1 => ?_)
    · try simp only [decide_eq_true_eq, decide_eq_false_iff_not, Bool.not_eq_true', Bool.not_eq_false', Bool.not_eq_eq_eq_not, Bool.not_true, Bool.not_false, ne_eq, Decidable.not_not, Classical.not_not] at hc1
      refine gc_skip ?_
      refine gk_then (hK12 _ _ ?_)
      refine gc_seq fun K14 hK14 => ?_
      refine gc_block ?_
      refine gc_seq fun K15 hK15 => ?_
      have hA := arrP hS (f := (k : Int)) (by omega) (by omega)
      have hB := arrP hS (f := (l : Int)) (by omega) (by omega)
      have a1 := hA.fs; have a2 := hA.ft; have a3 := hA.fm; have a4 := hA.row; have b1 := hB.fs; have b2 := hB.ft; have b3 := hB.fm; have b4 := hB.row
      refine gc_draw (by kernel_rfl) ?_
      refine gd_v (.free rfl) rfl rfl (qt_field (z := 0) (off := 1) rfl rfl Try.underlying29 rfl (by kernel_rfl) rfl) ?_
      refine gd_v (.free rfl) rfl rfl (qt_loadB (n := 0) rfl rfl Try.underlying22 rfl rfl rfl) ?_
      refine gd_v (.free rfl) rfl rfl (qt_move rfl rfl) ?_
      refine gd_v (.free rfl) rfl rfl (qt_index rfl rfl rfl ulE1 szE1 (fun w M => lenA_rd h1) (by omega) (by omega)) ?_
      refine gd_v (.free rfl) rfl rfl (qt_load1 rfl rfl Try.underlying2 rfl (fun w M => mem_rd M h1) (by omega) (by omega)) ?_
      refine gd_v (.free rfl) rfl rfl (qt_field (z := 0) (off := 1) rfl rfl Try.underlying29 rfl (by kernel_rfl) rfl) ?_
      refine gd_v (.free rfl) rfl rfl (qt_loadB (n := 0) rfl rfl Try.underlying22 rfl rfl rfl) ?_
      refine gd_v (.free rfl) rfl rfl (qt_move rfl rfl) ?_
      refine gd_v (.free rfl) rfl rfl (qt_index rfl rfl rfl ulE1 szE1 (fun w M => lenA_rd h1) (by omega) (by omega)) ?_
      refine gd_v (.free rfl) rfl rfl (qt_load1 rfl rfl Try.underlying2 rfl (fun w M => mem_rd M h1) (by omega) (by omega)) ?_
      refine gd_v (.free rfl) rfl rfl (qt_eql rfl rfl rfl) ?_
      refine gd_splitv (.free rfl) rfl rfl (qt_move rfl rfl) (fun hs7_11 => ?_) (fun hs7_11 => ?_)
      · try simp only [decide_eq_true_eq, decide_eq_false_iff_not, Bool.not_eq_true', Bool.not_eq_false', Bool.not_eq_eq_eq_not, Bool.not_true, Bool.not_false, ne_eq, Decidable.not_not, Classical.not_not] at hs7_11
        refine gd_v (.held _ _ _ rfl rfl rfl) rfl rfl (qt_field (z := 0) (off := 2) rfl rfl Try.underlying29 rfl (by kernel_rfl) rfl) ?_
        refine gd_v (.held _ _ _ rfl rfl rfl) rfl rfl (qt_loadB (n := 0) rfl rfl Try.underlying22 rfl rfl rfl) ?_
        refine gd_v (.held _ _ _ rfl rfl rfl) rfl rfl (qt_move rfl rfl) ?_
        refine gd_v (.held _ _ _ rfl rfl rfl) rfl rfl (qt_index rfl rfl rfl ulE1 szE1 (fun w M => lenA_rd h2) (by omega) (by omega)) ?_
        refine gd_v (.held _ _ _ rfl rfl rfl) rfl rfl (qt_load1 rfl rfl Try.underlying2 rfl (fun w M => mem_rd M h2) (by omega) (by omega)) ?_
        refine gd_v (.held _ _ _ rfl rfl rfl) rfl rfl (qt_field (z := 0) (off := 2) rfl rfl Try.underlying29 rfl (by kernel_rfl) rfl) ?_
        refine gd_v (.held _ _ _ rfl rfl rfl) rfl rfl (qt_loadB (n := 0) rfl rfl Try.underlying22 rfl rfl rfl) ?_
        refine gd_v (.held _ _ _ rfl rfl rfl) rfl rfl (qt_move rfl rfl) ?_
        refine gd_v (.held _ _ _ rfl rfl rfl) rfl rfl (qt_index rfl rfl rfl ulE1 szE1 (fun w M => lenA_rd h2) (by omega) (by omega)) ?_
        refine gd_v (.held _ _ _ rfl rfl rfl) rfl rfl (qt_load1 rfl rfl Try.underlying2 rfl (fun w M => mem_rd M h2) (by omega) (by omega)) ?_
        refine gd_v (.held _ _ _ rfl rfl rfl) rfl rfl (qt_eql rfl rfl rfl) ?_
        refine gd_v (.free rfl) rfl rfl (qt_pick_t rfl rfl rfl) ?_
        refine gd_splitv (.free rfl) rfl rfl (qt_move rfl rfl) (fun hs7_24 => ?_) (fun hs7_24 => ?_)
        · try simp only [decide_eq_true_eq, decide_eq_false_iff_not, Bool.not_eq_true', Bool.not_eq_false', Bool.not_eq_eq_eq_not, Bool.not_true, Bool.not_false, ne_eq, Decidable.not_not, Classical.not_not] at hs7_24
          refine gd_v (.held _ _ _ rfl rfl rfl) rfl rfl (qt_field (z := 0) (off := 2) rfl rfl Try.underlying29 rfl (by kernel_rfl) rfl) ?_
          refine gd_v (.held _ _ _ rfl rfl rfl) rfl rfl (qt_loadB (n := 0) rfl rfl Try.underlying22 rfl rfl rfl) ?_
          refine gd_v (.held _ _ _ rfl rfl rfl) rfl rfl (qt_move rfl rfl) ?_
          refine gd_v (.held _ _ _ rfl rfl rfl) rfl rfl (qt_index rfl rfl rfl ulE1 szE1 (fun w M => lenA_rd h2) (by omega) (by omega)) ?_
          refine gd_v (.held _ _ _ rfl rfl rfl) rfl rfl (qt_load1 rfl rfl Try.underlying2 rfl (fun w M => mem_rd M h2) (by omega) (by omega)) ?_
          refine gd_v (.held _ _ _ rfl rfl rfl) rfl rfl (qt_field (z := 0) (off := 1) rfl rfl Try.underlying29 rfl (by kernel_rfl) rfl) ?_
          refine gd_v (.held _ _ _ rfl rfl rfl) rfl rfl (qt_loadB (n := 0) rfl rfl Try.underlying22 rfl rfl rfl) ?_
          refine gd_v (.held _ _ _ rfl rfl rfl) rfl rfl (qt_move rfl rfl) ?_
          refine gd_v (.held _ _ _ rfl rfl rfl) rfl rfl (qt_index rfl rfl rfl ulE1 szE1 (fun w M => lenA_rd hu) (by omega) (by omega)) ?_
          refine gd_v (.held _ _ _ rfl rfl rfl) rfl rfl (qt_load1 rfl rfl Try.underlying2 rfl (fun w M => mem_rd M hu) (by omega) (by omega)) ?_
          refine gd_v (.held _ _ _ rfl rfl rfl) rfl rfl (qt_index rfl rfl rfl ulE1 szE1 (fun w M => lenA_rd h1) (by omega) (by omega)) ?_
          refine gd_v (.held _ _ _ rfl rfl rfl) rfl rfl (qt_load1 rfl rfl Try.underlying2 rfl (fun w M => mem_rd M h1) (by omega) (by omega)) ?_
          refine gd_v (.held _ _ _ rfl rfl rfl) rfl rfl (qt_eql rfl rfl rfl) ?_
          refine gd_v (.free rfl) rfl rfl (qt_pick_t rfl rfl rfl) ?_
          refine gd_v (.free rfl) rfl rfl (qt_assign rfl rfl) ?_
          refine gd_nil ?_
          refine gk_then (hK15 _ _ ?_)
          refine gc_seq fun K16 hK16 => ?_
          refine gc_seq fun K17 hK17 => ?_
          refine gc_region ?_
          refine g_v (.free rfl) rfl rfl (qt_assign rfl rfl) ?_
          refine g_nil ?_
          refine gk_then (hK17 _ _ ?_)
          refine gc_block ?_
          try simp only [List.nil_append, List.cons_append, List.append_assoc, List.set_cons_succ, List.set_cons_zero]
          refine gc_loop ([(0, _), (1, _), (2, _), (5, _), (6, _), (13, _), (22, _)] : Env) (fun s : Nat × Bool => (fun (j : Nat) (b : Bool) => ([(7, .bool b), (8, .int .i64 (j : Int))] : Env)) s.1 s.2) (fun s : Nat × Bool => (fun (j : Nat) (b : Bool) => ([] : List (Nat × Itm))) s.1 s.2) (fun s : Nat × Bool => (fun (j : Nat) (b : Bool) => j ≤ fs.length ∧ (b = true → okJ c fs k l j) ∧ (b = false → ¬ badJ c fs k l)) s.1 s.2) (fun s : Nat × Bool => (fun (j : Nat) (b : Bool) => fs.length - j) s.1 s.2) (0, _) (sub_cons rfl (sub_cons rfl (sub_cons rfl (sub_cons rfl (sub_cons rfl (sub_cons rfl (sub_cons rfl (sub_cons rfl (sub_cons rfl sub_nil))))))))) rfl (by first | exact ⟨Nat.zero_le _, fun h => ⟨⟨hs7_11, hs7_24, of_decide_eq_true h⟩, fun i hi => absurd hi (by omega)⟩, fun h hb => of_decide_eq_false h hb.1.2.2⟩ | exact ⟨Nat.zero_le _, fun h => absurd h (by decide), fun h hb => hs7_24 hb.1.2.1⟩ | exact ⟨Nat.zero_le _, fun h => absurd h (by decide), fun h hb => hs7_11 hb.1.1⟩) ?_
          rintro ⟨j, b⟩ hinv KL18 hKL18
          simp only [updL, List.foldl_cons, List.foldl_nil, List.set_cons_succ, List.set_cons_zero, List.cons_append, List.nil_append] at hinv hKL18 ⊢
          obtain ⟨hj, hj1, hj0⟩ := hinv
          refine gc_seq fun K19 hK19 => ?_
          refine gc_seq fun K20 hK20 => ?_
          refine gc_region ?_
          refine g_v (.free rfl) rfl rfl (qt_move rfl rfl) ?_
          refine g_splitv (.free rfl) rfl rfl (qt_move rfl rfl) (fun hs9_1 => ?_) (fun hs9_1 => ?_)
          · try simp only [decide_eq_true_eq, decide_eq_false_iff_not, Bool.not_eq_true', Bool.not_eq_false', Bool.not_eq_eq_eq_not, Bool.not_true, Bool.not_false, ne_eq, Decidable.not_not, Classical.not_not] at hs9_1
            refine g_v (.held _ _ _ rfl rfl rfl) rfl rfl (qt_move rfl rfl) ?_
            refine g_v (.held _ _ _ rfl rfl rfl) rfl rfl (qt_move rfl rfl) ?_
            refine g_v (.held _ _ _ rfl rfl rfl) rfl rfl (qt_len rfl rfl ulE1 (fun w M => lenV_rd hu)) ?_
            refine g_v (.held _ _ _ rfl rfl rfl) rfl rfl (qt_lss rfl rfl rfl) ?_
            refine g_v (.free rfl) rfl rfl (qt_pick_t rfl rfl rfl) ?_
            refine g_nil ?_
            refine gk_then (hK20 _ _ ?_)
            refine gc_cond rfl (fun hc2 => ?_) (fun hc2 => ?_)
            · try simp only [decide_eq_true_eq, decide_eq_false_iff_not, Bool.not_eq_true', Bool.not_eq_false', Bool.not_eq_eq_eq_not, Bool.not_true, Bool.not_false, ne_eq, Decidable.not_not, Classical.not_not] at hc2
              refine gc_skip ?_
              refine gk_then (hK19 _ _ ?_)
              refine gc_seq fun K21 hK21 => ?_
              refine gc_block ?_
              have hqj := allP_at hx (k := j) (by omega)
              refine gc_draw (by kernel_rfl) ?_
              refine gd_v (.free rfl) rfl rfl (qt_field (z := 0) (off := 4) rfl rfl Try.underlying29 rfl (by kernel_rfl) rfl) ?_
              refine gd_v (.free rfl) rfl rfl (qt_loadB (n := 0) rfl rfl Try.underlying23 rfl rfl rfl) ?_
              refine gd_v (.free rfl) rfl rfl (qt_move rfl rfl) ?_
              refine gd_v (.free rfl) rfl rfl (qt_index rfl rfl rfl ulE2 szE2 (fun w M => lenA_rd2 h4) (by omega) (by omega)) ?_
              refine gd_load2 (.free rfl) rfl rfl rfl rfl Try.underlying22 rfl h4 (by omega) (by omega) ?_
              intro ra22 rc22 hr22
              refine gd_v (.free rfl) rfl rfl (qt_move rfl rfl) ?_
              refine gd_v (.free rfl) rfl rfl (qt_move rfl rfl) ?_
              refine gd_v (.free rfl) rfl rfl (qt_index rfl rfl rfl ulE1 szE1 (fun w M => lenA_rd hu) (by omega) (by omega)) ?_
              refine gd_v (.free rfl) rfl rfl (qt_load1 rfl rfl Try.underlying2 rfl (fun w M => mem_rd M hu) (by omega) (by omega)) ?_
              refine gd_v (.free rfl) rfl rfl (qt_index rfl rfl rfl ulE1 szE1 (fun w M => lenA_rd hr22) (by omega) (by omega)) ?_
              refine gd_v (.free rfl) rfl rfl (qt_load1 rfl rfl Try.underlying2 rfl (fun w M => mem_rd M hr22) (by omega) (by omega)) ?_
              refine gd_v (.free rfl) rfl rfl (qt_field (z := 0) (off := 4) rfl rfl Try.underlying29 rfl (by kernel_rfl) rfl) ?_
              refine gd_v (.free rfl) rfl rfl (qt_loadB (n := 0) rfl rfl Try.underlying23 rfl rfl rfl) ?_
              refine gd_v (.free rfl) rfl rfl (qt_move rfl rfl) ?_
              refine gd_v (.free rfl) rfl rfl (qt_index rfl rfl rfl ulE2 szE2 (fun w M => lenA_rd2 h4) (by omega) (by omega)) ?_
              refine gd_load2 (.free rfl) rfl rfl rfl rfl Try.underlying22 rfl h4 (by omega) (by omega) ?_
              intro ra23 rc23 hr23
              refine gd_v (.free rfl) rfl rfl (qt_move rfl rfl) ?_
              refine gd_v (.free rfl) rfl rfl (qt_move rfl rfl) ?_
              refine gd_v (.free rfl) rfl rfl (qt_index rfl rfl rfl ulE1 szE1 (fun w M => lenA_rd hu) (by omega) (by omega)) ?_
              refine gd_v (.free rfl) rfl rfl (qt_load1 rfl rfl Try.underlying2 rfl (fun w M => mem_rd M hu) (by omega) (by omega)) ?_
              refine gd_v (.free rfl) rfl rfl (qt_index rfl rfl rfl ulE1 szE1 (fun w M => lenA_rd hr23) (by omega) (by omega)) ?_
              refine gd_v (.free rfl) rfl rfl (qt_load1 rfl rfl Try.underlying2 rfl (fun w M => mem_rd M hr23) (by omega) (by omega)) ?_
              refine gd_v (.free rfl) rfl rfl (qt_eql rfl rfl rfl) ?_
              refine gd_v (.free rfl) rfl rfl (qt_assign rfl rfl) ?_
              refine gd_nil ?_
              refine gk_block ?_
              refine gk_then (hK21 _ _ ?_)
              refine gc_region ?_
              refine g_v (.free rfl) rfl rfl (qt_move rfl rfl) ?_
              refine g_v (.free rfl) rfl rfl (qt_add rfl rfl rfl (by omega)) ?_
              refine g_v (.free rfl) rfl rfl (qt_assign rfl rfl) ?_
              refine g_nil ?_
              refine gk_then (gk_take 1 ?_)
              refine gk_sub ?hs_24 (hKL18 (j + 1, decide (c.th (k : Int) (at0 fs (j : Int)) = c.th (l : Int) (at0 fs (j : Int)))) ?hi_24 ?hm_24)
              case hs_24 => exact (sub_cons rfl (sub_cons rfl (sub_cons rfl (sub_cons rfl (sub_cons rfl (sub_cons rfl (sub_cons rfl (sub_cons rfl (sub_cons rfl sub_nil)))))))))
              case hi_24 => exact ⟨by omega, fun h => okJ_next (hj1 hs9_1) (of_decide_eq_true h), fun h hb => of_decide_eq_false h (hb.2 j (by omega))⟩
              case hm_24 => omega
            · try simp only [decide_eq_true_eq, decide_eq_false_iff_not, Bool.not_eq_true', Bool.not_eq_false', Bool.not_eq_eq_eq_not, Bool.not_true, Bool.not_false, ne_eq, Decidable.not_not, Classical.not_not] at hc2
              refine gc_exit ?_
              refine gk_then_exit ?_
              refine gk_then_exit ?_
              refine gk_block_hit ?_
              refine gk_then (hK16 _ _ ?_)
              refine gc_seq fun K25 hK25 => ?_
              refine gc_region ?_
              refine g_v (.free rfl) rfl rfl (qt_move rfl rfl) ?_
              refine g_nil ?_
              refine gk_then (hK25 _ _ ?_)
              refine gc_cond rfl (fun hc3 => ?_) (fun hc3 => ?_)
              · try simp only [decide_eq_true_eq, decide_eq_false_iff_not, Bool.not_eq_true', Bool.not_eq_false', Bool.not_eq_eq_eq_not, Bool.not_true, Bool.not_false, ne_eq, Decidable.not_not, Classical.not_not] at hc3
                refine gc_seq fun K26 hK26 => ?_
                refine gc_region ?_
                refine g_v (.free rfl) rfl rfl (qt_assign rfl rfl) ?_
                refine g_nil ?_
                refine gk_then (hK26 _ _ ?_)
                refine gc_ret ?_
                refine gk_block_ret ?_
                refine gk_then_ret ?_
                refine gk_then_ret ?_
                refine gk_block_ret ?_
                refine gk_block_ret ?_
                refine gk_then_ret ?_
                refine gk_then_ret ?_
                refine gk_block_ret ?_
                refine gk_then_ret ?_
                refine ret_1 rfl rfl  (fun w M => ?_)
                have hb : badJ c fs k l := badJ_of hj hj1 (by assumption) (by first | (right; assumption) | (left; omega))
                rw [bP_f (join_not hS hx hne hes (by omega) (by omega) hb)]; exact ⟨rfl, M.1⟩
              · try simp only [decide_eq_true_eq, decide_eq_false_iff_not, Bool.not_eq_true', Bool.not_eq_false', Bool.not_eq_eq_eq_not, Bool.not_true, Bool.not_false, ne_eq, Decidable.not_not, Classical.not_not] at hc3
                refine gc_skip ?_
                refine gk_block ?_
                refine gk_then (hK14 _ _ ?_)
                refine gc_region ?_
                refine g_v (.free rfl) rfl rfl (qt_move rfl rfl) ?_
                refine g_v (.free rfl) rfl rfl (qt_add rfl rfl rfl (by omega)) ?_
                refine g_v (.free rfl) rfl rfl (qt_assign rfl rfl) ?_
                refine g_nil ?_
                refine gk_then (gk_take 1 ?_)
                refine gk_sub ?hs_27 (hKL11 (l + 1) ?hi_27 ?hm_27)
                case hs_27 => exact (sub_cons rfl (sub_cons rfl (sub_cons rfl (sub_cons rfl (sub_cons rfl (sub_cons rfl sub_nil))))))
                case hi_27 => exact ⟨by omega, by omega, noB_next hno1 (hj0 (by assumption))⟩
                case hm_27 => omega
          · try simp only [decide_eq_true_eq, decide_eq_false_iff_not, Bool.not_eq_true', Bool.not_eq_false', Bool.not_eq_eq_eq_not, Bool.not_true, Bool.not_false, ne_eq, Decidable.not_not, Classical.not_not] at hs9_1
            refine g_skip (.not _ _ _ _ rfl rfl rfl rfl) rfl rfl ?_
            refine g_skip (.not _ _ _ _ rfl rfl rfl rfl) rfl rfl ?_
            refine g_skip (.not _ _ _ _ rfl rfl rfl rfl) rfl rfl ?_
            refine g_skip (.not _ _ _ _ rfl rfl rfl rfl) rfl rfl ?_
            refine g_v (.free rfl) rfl rfl (qt_pick_f rfl rfl rfl) ?_
            refine g_nil ?_
            refine gk_then (hK20 _ _ ?_)
            refine gc_cond_f rfl ?_
            refine gc_exit ?_
            refine gk_then_exit ?_
            refine gk_then_exit ?_
            refine gk_block_hit ?_
            refine gk_then (hK16 _ _ ?_)
            refine gc_seq fun K28 hK28 => ?_
            refine gc_region ?_
            refine g_v (.free rfl) rfl rfl (qt_move rfl rfl) ?_
            refine g_nil ?_
            refine gk_then (hK28 _ _ ?_)
            refine gc_cond rfl (fun hc4 => ?_) (fun hc4 => ?_)
            · try simp only [decide_eq_true_eq, decide_eq_false_iff_not, Bool.not_eq_true', Bool.not_eq_false', Bool.not_eq_eq_eq_not, Bool.not_true, Bool.not_false, ne_eq, Decidable.not_not, Classical.not_not] at hc4
              refine gc_seq fun K29 hK29 => ?_
              refine gc_region ?_
              refine g_v (.free rfl) rfl rfl (qt_assign rfl rfl) ?_
              refine g_nil ?_
              refine gk_then (hK29 _ _ ?_)
              refine gc_ret ?_
              refine gk_block_ret ?_
              refine gk_then_ret ?_
              refine gk_then_ret ?_
              refine gk_block_ret ?_
              refine gk_block_ret ?_
              refine gk_then_ret ?_
              refine gk_then_ret ?_
              refine gk_block_ret ?_
              refine gk_then_ret ?_
              refine ret_1 rfl rfl  (fun w M => ?_)
              have hb : badJ c fs k l := badJ_of hj hj1 (by assumption) (by first | (right; assumption) | (left; omega))
              rw [bP_f (join_not hS hx hne hes (by omega) (by omega) hb)]; exact ⟨rfl, M.1⟩
            · try simp only [decide_eq_true_eq, decide_eq_false_iff_not, Bool.not_eq_true', Bool.not_eq_false', Bool.not_eq_eq_eq_not, Bool.not_true, Bool.not_false, ne_eq, Decidable.not_not, Classical.not_not] at hc4
              refine gc_skip ?_
              refine gk_block ?_
              refine gk_then (hK14 _ _ ?_)
              refine gc_region ?_
              refine g_v (.free rfl) rfl rfl (qt_move rfl rfl) ?_
              refine g_v (.free rfl) rfl rfl (qt_add rfl rfl rfl (by omega)) ?_
              refine g_v (.free rfl) rfl rfl (qt_assign rfl rfl) ?_
              refine g_nil ?_
              refine gk_then (gk_take 1 ?_)
              refine gk_sub ?hs_30 (hKL11 (l + 1) ?hi_30 ?hm_30)
              case hs_30 => exact (sub_cons rfl (sub_cons rfl (sub_cons rfl (sub_cons rfl (sub_cons rfl (sub_cons rfl sub_nil))))))
              case hi_30 => exact ⟨by omega, by omega, noB_next hno1 (hj0 (by assumption))⟩
              case hm_30 => omega
        · try simp only [decide_eq_true_eq, decide_eq_false_iff_not, Bool.not_eq_true', Bool.not_eq_false', Bool.not_eq_eq_eq_not, Bool.not_true, Bool.not_false, ne_eq, Decidable.not_not, Classical.not_not] at hs7_24
          refine gd_skip (.not _ _ _ _ rfl rfl rfl rfl) rfl rfl ?_
          refine gd_skip (.not _ _ _ _ rfl rfl rfl rfl) rfl rfl ?_
          refine gd_skip (.not _ _ _ _ rfl rfl rfl rfl) rfl rfl ?_
          refine gd_skip (.not _ _ _ _ rfl rfl rfl rfl) rfl rfl ?_
          refine gd_skip (.not _ _ _ _ rfl rfl rfl rfl) rfl rfl ?_
          refine gd_skip (.not _ _ _ _ rfl rfl rfl rfl) rfl rfl ?_
          refine gd_skip (.not _ _ _ _ rfl rfl rfl rfl) rfl rfl ?_
          refine gd_skip (.not _ _ _ _ rfl rfl rfl rfl) rfl rfl ?_
          refine gd_skip (.not _ _ _ _ rfl rfl rfl rfl) rfl rfl ?_
          refine gd_skip (.not _ _ _ _ rfl rfl rfl rfl) rfl rfl ?_
          refine gd_skip (.not _ _ _ _ rfl rfl rfl rfl) rfl rfl ?_
          refine gd_skip (.not _ _ _ _ rfl rfl rfl rfl) rfl rfl ?_
          refine gd_skip (.not _ _ _ _ rfl rfl rfl rfl) rfl rfl ?_
          refine gd_v (.free rfl) rfl rfl (qt_pick_f rfl rfl rfl) ?_
          refine gd_v (.free rfl) rfl rfl (qt_assign rfl rfl) ?_
          refine gd_nil ?_
          refine gk_then (hK15 _ _ ?_)
          refine gc_seq fun K31 hK31 => ?_
          refine gc_seq fun K32 hK32 => ?_
          refine gc_region ?_
          refine g_v (.free rfl) rfl rfl (qt_assign rfl rfl) ?_
          refine g_nil ?_
          refine gk_then (hK32 _ _ ?_)
          refine gc_block ?_
          try simp only [List.nil_append, List.cons_append, List.append_assoc, List.set_cons_succ, List.set_cons_zero]
          refine gc_loop ([(0, _), (1, _), (2, _), (5, _), (6, _), (13, _), (22, _)] : Env) (fun s : Nat × Bool => (fun (j : Nat) (b : Bool) => ([(7, .bool b), (8, .int .i64 (j : Int))] : Env)) s.1 s.2) (fun s : Nat × Bool => (fun (j : Nat) (b : Bool) => ([] : List (Nat × Itm))) s.1 s.2) (fun s : Nat × Bool => (fun (j : Nat) (b : Bool) => j ≤ fs.length ∧ (b = true → okJ c fs k l j) ∧ (b = false → ¬ badJ c fs k l)) s.1 s.2) (fun s : Nat × Bool => (fun (j : Nat) (b : Bool) => fs.length - j) s.1 s.2) (0, _) (sub_cons rfl (sub_cons rfl (sub_cons rfl (sub_cons rfl (sub_cons rfl (sub_cons rfl (sub_cons rfl (sub_cons rfl (sub_cons rfl sub_nil))))))))) rfl (by first | exact ⟨Nat.zero_le _, fun h => ⟨⟨hs7_11, hs7_24, of_decide_eq_true h⟩, fun i hi => absurd hi (by omega)⟩, fun h hb => of_decide_eq_false h hb.1.2.2⟩ | exact ⟨Nat.zero_le _, fun h => absurd h (by decide), fun h hb => hs7_24 hb.1.2.1⟩ | exact ⟨Nat.zero_le _, fun h => absurd h (by decide), fun h hb => hs7_11 hb.1.1⟩) ?_
          rintro ⟨j, b⟩ hinv KL33 hKL33
          simp only [updL, List.foldl_cons, List.foldl_nil, List.set_cons_succ, List.set_cons_zero, List.cons_append, List.nil_append] at hinv hKL33 ⊢
          obtain ⟨hj, hj1, hj0⟩ := hinv
          refine gc_seq fun K34 hK34 => ?_
          refine gc_seq fun K35 hK35 => ?_
          refine gc_region ?_
          refine g_v (.free rfl) rfl rfl (qt_move rfl rfl) ?_
          refine g_splitv (.free rfl) rfl rfl (qt_move rfl rfl) (fun hs9_1 => ?_) (fun hs9_1 => ?_)
          · try simp only [decide_eq_true_eq, decide_eq_false_iff_not, Bool.not_eq_true', Bool.not_eq_false', Bool.not_eq_eq_eq_not, Bool.not_true, Bool.not_false, ne_eq, Decidable.not_not, Classical.not_not] at hs9_1
            refine g_v (.held _ _ _ rfl rfl rfl) rfl rfl (qt_move rfl rfl) ?_
            refine g_v (.held _ _ _ rfl rfl rfl) rfl rfl (qt_move rfl rfl) ?_
            refine g_v (.held _ _ _ rfl rfl rfl) rfl rfl (qt_len rfl rfl ulE1 (fun w M => lenV_rd hu)) ?_
            refine g_v (.held _ _ _ rfl rfl rfl) rfl rfl (qt_lss rfl rfl rfl) ?_
            refine g_v (.free rfl) rfl rfl (qt_pick_t rfl rfl rfl) ?_
            refine g_nil ?_
            refine gk_then (hK35 _ _ ?_)
            refine gc_cond rfl (fun hc5 => ?_) (fun hc5 => ?_)
            · try simp only [decide_eq_true_eq, decide_eq_false_iff_not, Bool.not_eq_true', Bool.not_eq_false', Bool.not_eq_eq_eq_not, Bool.not_true, Bool.not_false, ne_eq, Decidable.not_not, Classical.not_not] at hc5
              refine gc_skip ?_
              refine gk_then (hK34 _ _ ?_)
              refine gc_seq fun K36 hK36 => ?_
              refine gc_block ?_
              have hqj := allP_at hx (k := j) (by omega)
              refine gc_draw (by kernel_rfl) ?_
              refine gd_v (.free rfl) rfl rfl (qt_field (z := 0) (off := 4) rfl rfl Try.underlying29 rfl (by kernel_rfl) rfl) ?_
              refine gd_v (.free rfl) rfl rfl (qt_loadB (n := 0) rfl rfl Try.underlying23 rfl rfl rfl) ?_
              refine gd_v (.free rfl) rfl rfl (qt_move rfl rfl) ?_
              refine gd_v (.free rfl) rfl rfl (qt_index rfl rfl rfl ulE2 szE2 (fun w M => lenA_rd2 h4) (by omega) (by omega)) ?_
              refine gd_load2 (.free rfl) rfl rfl rfl rfl Try.underlying22 rfl h4 (by omega) (by omega) ?_
              intro ra37 rc37 hr37
              refine gd_v (.free rfl) rfl rfl (qt_move rfl rfl) ?_
              refine gd_v (.free rfl) rfl rfl (qt_move rfl rfl) ?_
              refine gd_v (.free rfl) rfl rfl (qt_index rfl rfl rfl ulE1 szE1 (fun w M => lenA_rd hu) (by omega) (by omega)) ?_
              refine gd_v (.free rfl) rfl rfl (qt_load1 rfl rfl Try.underlying2 rfl (fun w M => mem_rd M hu) (by omega) (by omega)) ?_
              refine gd_v (.free rfl) rfl rfl (qt_index rfl rfl rfl ulE1 szE1 (fun w M => lenA_rd hr37) (by omega) (by omega)) ?_
              refine gd_v (.free rfl) rfl rfl (qt_load1 rfl rfl Try.underlying2 rfl (fun w M => mem_rd M hr37) (by omega) (by omega)) ?_
              refine gd_v (.free rfl) rfl rfl (qt_field (z := 0) (off := 4) rfl rfl Try.underlying29 rfl (by kernel_rfl) rfl) ?_
              refine gd_v (.free rfl) rfl rfl (qt_loadB (n := 0) rfl rfl Try.underlying23 rfl rfl rfl) ?_
              refine gd_v (.free rfl) rfl rfl (qt_move rfl rfl) ?_
              refine gd_v (.free rfl) rfl rfl (qt_index rfl rfl rfl ulE2 szE2 (fun w M => lenA_rd2 h4) (by omega) (by omega)) ?_
              refine gd_load2 (.free rfl) rfl rfl rfl rfl Try.underlying22 rfl h4 (by omega) (by omega) ?_
              intro ra38 rc38 hr38
              refine gd_v (.free rfl) rfl rfl (qt_move rfl rfl) ?_
              refine gd_v (.free rfl) rfl rfl (qt_move rfl rfl) ?_
              refine gd_v (.free rfl) rfl rfl (qt_index rfl rfl rfl ulE1 szE1 (fun w M => lenA_rd hu) (by omega) (by omega)) ?_
              refine gd_v (.free rfl) rfl rfl (qt_load1 rfl rfl Try.underlying2 rfl (fun w M => mem_rd M hu) (by omega) (by omega)) ?_
              refine gd_v (.free rfl) rfl rfl (qt_index rfl rfl rfl ulE1 szE1 (fun w M => lenA_rd hr38) (by omega) (by omega)) ?_
              refine gd_v (.free rfl) rfl rfl (qt_load1 rfl rfl Try.underlying2 rfl (fun w M => mem_rd M hr38) (by omega) (by omega)) ?_
              refine gd_v (.free rfl) rfl rfl (qt_eql rfl rfl rfl) ?_
              refine gd_v (.free rfl) rfl rfl (qt_assign rfl rfl) ?_
              refine gd_nil ?_
              refine gk_block ?_
              refine gk_then (hK36 _ _ ?_)
              refine gc_region ?_
              refine g_v (.free rfl) rfl rfl (qt_move rfl rfl) ?_
              refine g_v (.free rfl) rfl rfl (qt_add rfl rfl rfl (by omega)) ?_
              refine g_v (.free rfl) rfl rfl (qt_assign rfl rfl) ?_
              refine g_nil ?_
              refine gk_then (gk_take 1 ?_)
              refine gk_sub ?hs_39 (hKL33 (j + 1, decide (c.th (k : Int) (at0 fs (j : Int)) = c.th (l : Int) (at0 fs (j : Int)))) ?hi_39 ?hm_39)
              case hs_39 => exact (sub_cons rfl (sub_cons rfl (sub_cons rfl (sub_cons rfl (sub_cons rfl (sub_cons rfl (sub_cons rfl (sub_cons rfl (sub_cons rfl sub_nil)))))))))
              case hi_39 => exact ⟨by omega, fun h => okJ_next (hj1 hs9_1) (of_decide_eq_true h), fun h hb => of_decide_eq_false h (hb.2 j (by omega))⟩
              case hm_39 => omega
            · try simp only [decide_eq_true_eq, decide_eq_false_iff_not, Bool.not_eq_true', Bool.not_eq_false', Bool.not_eq_eq_eq_not, Bool.not_true, Bool.not_false, ne_eq, Decidable.not_not, Classical.not_not] at hc5
              refine gc_exit ?_
              refine gk_then_exit ?_
              refine gk_then_exit ?_
              refine gk_block_hit ?_
              refine gk_then (hK31 _ _ ?_)
              refine gc_seq fun K40 hK40 => ?_
              refine gc_region ?_
              refine g_v (.free rfl) rfl rfl (qt_move rfl rfl) ?_
              refine g_nil ?_
              refine gk_then (hK40 _ _ ?_)
              refine gc_cond rfl (fun hc6 => ?_) (fun hc6 => ?_)
              · try simp only [decide_eq_true_eq, decide_eq_false_iff_not, Bool.not_eq_true', Bool.not_eq_false', Bool.not_eq_eq_eq_not, Bool.not_true, Bool.not_false, ne_eq, Decidable.not_not, Classical.not_not] at hc6
                refine gc_seq fun K41 hK41 => ?_
                refine gc_region ?_
                refine g_v (.free rfl) rfl rfl (qt_assign rfl rfl) ?_
                refine g_nil ?_
                refine gk_then (hK41 _ _ ?_)
                refine gc_ret ?_
                refine gk_block_ret ?_
                refine gk_then_ret ?_
                refine gk_then_ret ?_
                refine gk_block_ret ?_
                refine gk_block_ret ?_
                refine gk_then_ret ?_
                refine gk_then_ret ?_
                refine gk_block_ret ?_
                refine gk_then_ret ?_
                refine ret_1 rfl rfl  (fun w M => ?_)
                have hb : badJ c fs k l := badJ_of hj hj1 (by assumption) (by first | (right; assumption) | (left; omega))
                rw [bP_f (join_not hS hx hne hes (by omega) (by omega) hb)]; exact ⟨rfl, M.1⟩
              · try simp only [decide_eq_true_eq, decide_eq_false_iff_not, Bool.not_eq_true', Bool.not_eq_false', Bool.not_eq_eq_eq_not, Bool.not_true, Bool.not_false, ne_eq, Decidable.not_not, Classical.not_not] at hc6
                refine gc_skip ?_
                refine gk_block ?_
                refine gk_then (hK14 _ _ ?_)
                refine gc_region ?_
                refine g_v (.free rfl) rfl rfl (qt_move rfl rfl) ?_
                refine g_v (.free rfl) rfl rfl (qt_add rfl rfl rfl (by omega)) ?_
                refine g_v (.free rfl) rfl rfl (qt_assign rfl rfl) ?_
                refine g_nil ?_
                refine gk_then (gk_take 1 ?_)
                refine gk_sub ?hs_42 (hKL11 (l + 1) ?hi_42 ?hm_42)
                case hs_42 => exact (sub_cons rfl (sub_cons rfl (sub_cons rfl (sub_cons rfl (sub_cons rfl (sub_cons rfl sub_nil))))))
                case hi_42 => exact ⟨by omega, by omega, noB_next hno1 (hj0 (by assumption))⟩
                case hm_42 => omega
          · try simp only [decide_eq_true_eq, decide_eq_false_iff_not, Bool.not_eq_true', Bool.not_eq_false', Bool.not_eq_eq_eq_not, Bool.not_true, Bool.not_false, ne_eq, Decidable.not_not, Classical.not_not] at hs9_1
            refine g_skip (.not _ _ _ _ rfl rfl rfl rfl) rfl rfl ?_
            refine g_skip (.not _ _ _ _ rfl rfl rfl rfl) rfl rfl ?_
            refine g_skip (.not _ _ _ _ rfl rfl rfl rfl) rfl rfl ?_
            refine g_skip (.not _ _ _ _ rfl rfl rfl rfl) rfl rfl ?_
            refine g_v (.free rfl) rfl rfl (qt_pick_f rfl rfl rfl) ?_
            refine g_nil ?_
            refine gk_then (hK35 _ _ ?_)
            refine gc_cond_f rfl ?_
            refine gc_exit ?_
            refine gk_then_exit ?_
            refine gk_then_exit ?_
            refine gk_block_hit ?_
            refine gk_then (hK31 _ _ ?_)
            refine gc_seq fun K43 hK43 => ?_
            refine gc_region ?_
            refine g_v (.free rfl) rfl rfl (qt_move rfl rfl) ?_
            refine g_nil ?_
            refine gk_then (hK43 _ _ ?_)
            refine gc_cond rfl (fun hc7 => ?_) (fun hc7 => ?_)
            · try simp only [decide_eq_true_eq, decide_eq_false_iff_not, Bool.not_eq_true', Bool.not_eq_false', Bool.not_eq_eq_eq_not, Bool.not_true, Bool.not_false, ne_eq, Decidable.not_not, Classical.not_not] at hc7
              refine gc_seq fun K44 hK44 => ?_
              refine gc_region ?_
              refine g_v (.free rfl) rfl rfl (qt_assign rfl rfl) ?_
              refine g_nil ?_
              refine gk_then (hK44 _ _ ?_)
              refine gc_ret ?_
              refine gk_block_ret ?_
              refine gk_then_ret ?_
              refine gk_then_ret ?_
              refine gk_block_ret ?_
              refine gk_block_ret ?_
              refine gk_then_ret ?_
              refine gk_then_ret ?_
              refine gk_block_ret ?_
              refine gk_then_ret ?_
              refine ret_1 rfl rfl  (fun w M => ?_)
              have hb : badJ c fs k l := badJ_of hj hj1 (by assumption) (by first | (right; assumption) | (left; omega))
              rw [bP_f (join_not hS hx hne hes (by omega) (by omega) hb)]; exact ⟨rfl, M.1⟩
            · try simp only [decide_eq_true_eq, decide_eq_false_iff_not, Bool.not_eq_true', Bool.not_eq_false', Bool.not_eq_eq_eq_not, Bool.not_true, Bool.not_false, ne_eq, Decidable.not_not, Classical.not_not] at hc7
              refine gc_skip ?_
              refine gk_block ?_
              refine gk_then (hK14 _ _ ?_)
              refine gc_region ?_
              refine g_v (.free rfl) rfl rfl (qt_move rfl rfl) ?_
              refine g_v (.free rfl) rfl rfl (qt_add rfl rfl rfl (by omega)) ?_
              refine g_v (.free rfl) rfl rfl (qt_assign rfl rfl) ?_
              refine g_nil ?_
              refine gk_then (gk_take 1 ?_)
              refine gk_sub ?hs_45 (hKL11 (l + 1) ?hi_45 ?hm_45)
              case hs_45 => exact (sub_cons rfl (sub_cons rfl (sub_cons rfl (sub_cons rfl (sub_cons rfl (sub_cons rfl sub_nil))))))
              case hi_45 => exact ⟨by omega, by omega, noB_next hno1 (hj0 (by assumption))⟩
              case hm_45 => omega
      · try simp only [decide_eq_true_eq, decide_eq_false_iff_not, Bool.not_eq_true', Bool.not_eq_false', Bool.not_eq_eq_eq_not, Bool.not_true, Bool.not_false, ne_eq, Decidable.not_not, Classical.not_not] at hs7_11
        refine gd_skip (.not _ _ _ _ rfl rfl rfl rfl) rfl rfl ?_
        refine gd_skip (.not _ _ _ _ rfl rfl rfl rfl) rfl rfl ?_
        refine gd_skip (.not _ _ _ _ rfl rfl rfl rfl) rfl rfl ?_
        refine gd_skip (.not _ _ _ _ rfl rfl rfl rfl) rfl rfl ?_
        refine gd_skip (.not _ _ _ _ rfl rfl rfl rfl) rfl rfl ?_
        refine gd_skip (.not _ _ _ _ rfl rfl rfl rfl) rfl rfl ?_
        refine gd_skip (.not _ _ _ _ rfl rfl rfl rfl) rfl rfl ?_
        refine gd_skip (.not _ _ _ _ rfl rfl rfl rfl) rfl rfl ?_
        refine gd_skip (.not _ _ _ _ rfl rfl rfl rfl) rfl rfl ?_
        refine gd_skip (.not _ _ _ _ rfl rfl rfl rfl) rfl rfl ?_
        refine gd_skip (.not _ _ _ _ rfl rfl rfl rfl) rfl rfl ?_
        refine gd_v (.free rfl) rfl rfl (qt_pick_f rfl rfl rfl) ?_
        refine gd_v (.free rfl) rfl rfl (qt_move rfl rfl) ?_
        refine gd_skip (.not _ _ _ _ rfl rfl rfl rfl) rfl rfl ?_
        refine gd_skip (.not _ _ _ _ rfl rfl rfl rfl) rfl rfl ?_
        refine gd_skip (.not _ _ _ _ rfl rfl rfl rfl) rfl rfl ?_
        refine gd_skip (.not _ _ _ _ rfl rfl rfl rfl) rfl rfl ?_
        refine gd_skip (.not _ _ _ _ rfl rfl rfl rfl) rfl rfl ?_
        refine gd_skip (.not _ _ _ _ rfl rfl rfl rfl) rfl rfl ?_
        refine gd_skip (.not _ _ _ _ rfl rfl rfl rfl) rfl rfl ?_
        refine gd_skip (.not _ _ _ _ rfl rfl rfl rfl) rfl rfl ?_
        refine gd_skip (.not _ _ _ _ rfl rfl rfl rfl) rfl rfl ?_
        refine gd_skip (.not _ _ _ _ rfl rfl rfl rfl) rfl rfl ?_
        refine gd_skip (.not _ _ _ _ rfl rfl rfl rfl) rfl rfl ?_
        refine gd_skip (.not _ _ _ _ rfl rfl rfl rfl) rfl rfl ?_
        refine gd_skip (.not _ _ _ _ rfl rfl rfl rfl) rfl rfl ?_
        refine gd_v (.free rfl) rfl rfl (qt_pick_f rfl rfl rfl) ?_
        refine gd_v (.free rfl) rfl rfl (qt_assign rfl rfl) ?_
        refine gd_nil ?_
        refine gk_then (hK15 _ _ ?_)
        refine gc_seq fun K46 hK46 => ?_
        refine gc_seq fun K47 hK47 => ?_
        refine gc_region ?_
        refine g_v (.free rfl) rfl rfl (qt_assign rfl rfl) ?_
        refine g_nil ?_
        refine gk_then (hK47 _ _ ?_)
        refine gc_block ?_
        try simp only [List.nil_append, List.cons_append, List.append_assoc, List.set_cons_succ, List.set_cons_zero]
        refine gc_loop ([(0, _), (1, _), (2, _), (5, _), (6, _), (13, _), (22, _)] : Env) (fun s : Nat × Bool => (fun (j : Nat) (b : Bool) => ([(7, .bool b), (8, .int .i64 (j : Int))] : Env)) s.1 s.2) (fun s : Nat × Bool => (fun (j : Nat) (b : Bool) => ([] : List (Nat × Itm))) s.1 s.2) (fun s : Nat × Bool => (fun (j : Nat) (b : Bool) => j ≤ fs.length ∧ (b = true → okJ c fs k l j) ∧ (b = false → ¬ badJ c fs k l)) s.1 s.2) (fun s : Nat × Bool => (fun (j : Nat) (b : Bool) => fs.length - j) s.1 s.2) (0, _) (sub_cons rfl (sub_cons rfl (sub_cons rfl (sub_cons rfl (sub_cons rfl (sub_cons rfl (sub_cons rfl (sub_cons rfl (sub_cons rfl sub_nil))))))))) rfl (by first | exact ⟨Nat.zero_le _, fun h => ⟨⟨hs7_11, hs7_24, of_decide_eq_true h⟩, fun i hi => absurd hi (by omega)⟩, fun h hb => of_decide_eq_false h hb.1.2.2⟩ | exact ⟨Nat.zero_le _, fun h => absurd h (by decide), fun h hb => hs7_24 hb.1.2.1⟩ | exact ⟨Nat.zero_le _, fun h => absurd h (by decide), fun h hb => hs7_11 hb.1.1⟩) ?_
        rintro ⟨j, b⟩ hinv KL48 hKL48
        simp only [updL, List.foldl_cons, List.foldl_nil, List.set_cons_succ, List.set_cons_zero, List.cons_append, List.nil_append] at hinv hKL48 ⊢
        obtain ⟨hj, hj1, hj0⟩ := hinv
        refine gc_seq fun K49 hK49 => ?_
        refine gc_seq fun K50 hK50 => ?_
        refine gc_region ?_
        refine g_v (.free rfl) rfl rfl (qt_move rfl rfl) ?_
        refine g_splitv (.free rfl) rfl rfl (qt_move rfl rfl) (fun hs9_1 => ?_) (fun hs9_1 => ?_)
        · try simp only [decide_eq_true_eq, decide_eq_false_iff_not, Bool.not_eq_true', Bool.not_eq_false', Bool.not_eq_eq_eq_not, Bool.not_true, Bool.not_false, ne_eq, Decidable.not_not, Classical.not_not] at hs9_1
          refine g_v (.held _ _ _ rfl rfl rfl) rfl rfl (qt_move rfl rfl) ?_
          refine g_v (.held _ _ _ rfl rfl rfl) rfl rfl (qt_move rfl rfl) ?_
          refine g_v (.held _ _ _ rfl rfl rfl) rfl rfl (qt_len rfl rfl ulE1 (fun w M => lenV_rd hu)) ?_
          refine g_v (.held _ _ _ rfl rfl rfl) rfl rfl (qt_lss rfl rfl rfl) ?_
          refine g_v (.free rfl) rfl rfl (qt_pick_t rfl rfl rfl) ?_
          refine g_nil ?_
          refine gk_then (hK50 _ _ ?_)
          refine gc_cond rfl (fun hc8 => ?_) (fun hc8 => ?_)
          · try simp only [decide_eq_true_eq, decide_eq_false_iff_not, Bool.not_eq_true', Bool.not_eq_false', Bool.not_eq_eq_eq_not, Bool.not_true, Bool.not_false, ne_eq, Decidable.not_not, Classical.not_not] at hc8
            refine gc_skip ?_
            refine gk_then (hK49 _ _ ?_)
            refine gc_seq fun K51 hK51 => ?_
            refine gc_block ?_
            have hqj := allP_at hx (k := j) (by omega)
            refine gc_draw (by kernel_rfl) ?_
            refine gd_v (.free rfl) rfl rfl (qt_field (z := 0) (off := 4) rfl rfl Try.underlying29 rfl (by kernel_rfl) rfl) ?_
            refine gd_v (.free rfl) rfl rfl (qt_loadB (n := 0) rfl rfl Try.underlying23 rfl rfl rfl) ?_
            refine gd_v (.free rfl) rfl rfl (qt_move rfl rfl) ?_
            refine gd_v (.free rfl) rfl rfl (qt_index rfl rfl rfl ulE2 szE2 (fun w M => lenA_rd2 h4) (by omega) (by omega)) ?_
            refine gd_load2 (.free rfl) rfl rfl rfl rfl Try.underlying22 rfl h4 (by omega) (by omega) ?_
            intro ra52 rc52 hr52
            refine gd_v (.free rfl) rfl rfl (qt_move rfl rfl) ?_
            refine gd_v (.free rfl) rfl rfl (qt_move rfl rfl) ?_
            refine gd_v (.free rfl) rfl rfl (qt_index rfl rfl rfl ulE1 szE1 (fun w M => lenA_rd hu) (by omega) (by omega)) ?_
            refine gd_v (.free rfl) rfl rfl (qt_load1 rfl rfl Try.underlying2 rfl (fun w M => mem_rd M hu) (by omega) (by omega)) ?_
            refine gd_v (.free rfl) rfl rfl (qt_index rfl rfl rfl ulE1 szE1 (fun w M => lenA_rd hr52) (by omega) (by omega)) ?_
            refine gd_v (.free rfl) rfl rfl (qt_load1 rfl rfl Try.underlying2 rfl (fun w M => mem_rd M hr52) (by omega) (by omega)) ?_
            refine gd_v (.free rfl) rfl rfl (qt_field (z := 0) (off := 4) rfl rfl Try.underlying29 rfl (by kernel_rfl) rfl) ?_
            refine gd_v (.free rfl) rfl rfl (qt_loadB (n := 0) rfl rfl Try.underlying23 rfl rfl rfl) ?_
            refine gd_v (.free rfl) rfl rfl (qt_move rfl rfl) ?_
            refine gd_v (.free rfl) rfl rfl (qt_index rfl rfl rfl ulE2 szE2 (fun w M => lenA_rd2 h4) (by omega) (by omega)) ?_
            refine gd_load2 (.free rfl) rfl rfl rfl rfl Try.underlying22 rfl h4 (by omega) (by omega) ?_
            intro ra53 rc53 hr53
            refine gd_v (.free rfl) rfl rfl (qt_move rfl rfl) ?_
            refine gd_v (.free rfl) rfl rfl (qt_move rfl rfl) ?_
            refine gd_v (.free rfl) rfl rfl (qt_index rfl rfl rfl ulE1 szE1 (fun w M => lenA_rd hu) (by omega) (by omega)) ?_
            refine gd_v (.free rfl) rfl rfl (qt_load1 rfl rfl Try.underlying2 rfl (fun w M => mem_rd M hu) (by omega) (by omega)) ?_
            refine gd_v (.free rfl) rfl rfl (qt_index rfl rfl rfl ulE1 szE1 (fun w M => lenA_rd hr53) (by omega) (by omega)) ?_
            refine gd_v (.free rfl) rfl rfl (qt_load1 rfl rfl Try.underlying2 rfl (fun w M => mem_rd M hr53) (by omega) (by omega)) ?_
            refine gd_v (.free rfl) rfl rfl (qt_eql rfl rfl rfl) ?_
            refine gd_v (.free rfl) rfl rfl (qt_assign rfl rfl) ?_
            refine gd_nil ?_
            refine gk_block ?_
            refine gk_then (hK51 _ _ ?_)
            refine gc_region ?_
            refine g_v (.free rfl) rfl rfl (qt_move rfl rfl) ?_
            refine g_v (.free rfl) rfl rfl (qt_add rfl rfl rfl (by omega)) ?_
            refine g_v (.free rfl) rfl rfl (qt_assign rfl rfl) ?_
            refine g_nil ?_
            refine gk_then (gk_take 1 ?_)
            refine gk_sub ?hs_54 (hKL48 (j + 1, decide (c.th (k : Int) (at0 fs (j : Int)) = c.th (l : Int) (at0 fs (j : Int)))) ?hi_54 ?hm_54)
            case hs_54 => exact (sub_cons rfl (sub_cons rfl (sub_cons rfl (sub_cons rfl (sub_cons rfl (sub_cons rfl (sub_cons rfl (sub_cons rfl (sub_cons rfl sub_nil)))))))))
            case hi_54 => exact ⟨by omega, fun h => okJ_next (hj1 hs9_1) (of_decide_eq_true h), fun h hb => of_decide_eq_false h (hb.2 j (by omega))⟩
            case hm_54 => omega
          · try simp only [decide_eq_true_eq, decide_eq_false_iff_not, Bool.not_eq_true', Bool.not_eq_false', Bool.not_eq_eq_eq_not, Bool.not_true, Bool.not_false, ne_eq, Decidable.not_not, Classical.not_not] at hc8
            refine gc_exit ?_
            refine gk_then_exit ?_
            refine gk_then_exit ?_
            refine gk_block_hit ?_
            refine gk_then (hK46 _ _ ?_)
            refine gc_seq fun K55 hK55 => ?_
            refine gc_region ?_
            refine g_v (.free rfl) rfl rfl (qt_move rfl rfl) ?_
            refine g_nil ?_
            refine gk_then (hK55 _ _ ?_)
            refine gc_cond rfl (fun hc9 => ?_) (fun hc9 => ?_)
            · try simp only [decide_eq_true_eq, decide_eq_false_iff_not, Bool.not_eq_true', Bool.not_eq_false', Bool.not_eq_eq_eq_not, Bool.not_true, Bool.not_false, ne_eq, Decidable.not_not, Classical.not_not] at hc9
              refine gc_seq fun K56 hK56 => ?_
              refine gc_region ?_
              refine g_v (.free rfl) rfl rfl (qt_assign rfl rfl) ?_
              refine g_nil ?_
              refine gk_then (hK56 _ _ ?_)
              refine gc_ret ?_
              refine gk_block_ret ?_
              refine gk_then_ret ?_
              refine gk_then_ret ?_
              refine gk_block_ret ?_
              refine gk_block_ret ?_
              refine gk_then_ret ?_
              refine gk_then_ret ?_
              refine gk_block_ret ?_
              refine gk_then_ret ?_
              refine ret_1 rfl rfl  (fun w M => ?_)
              have hb : badJ c fs k l := badJ_of hj hj1 (by assumption) (by first | (right; assumption) | (left; omega))
              rw [bP_f (join_not hS hx hne hes (by omega) (by omega) hb)]; exact ⟨rfl, M.1⟩
            · try simp only [decide_eq_true_eq, decide_eq_false_iff_not, Bool.not_eq_true', Bool.not_eq_false', Bool.not_eq_eq_eq_not, Bool.not_true, Bool.not_false, ne_eq, Decidable.not_not, Classical.not_not] at hc9
              refine gc_skip ?_
              refine gk_block ?_
              refine gk_then (hK14 _ _ ?_)
              refine gc_region ?_
              refine g_v (.free rfl) rfl rfl (qt_move rfl rfl) ?_
              refine g_v (.free rfl) rfl rfl (qt_add rfl rfl rfl (by omega)) ?_
              refine g_v (.free rfl) rfl rfl (qt_assign rfl rfl) ?_
              refine g_nil ?_
              refine gk_then (gk_take 1 ?_)
              refine gk_sub ?hs_57 (hKL11 (l + 1) ?hi_57 ?hm_57)
              case hs_57 => exact (sub_cons rfl (sub_cons rfl (sub_cons rfl (sub_cons rfl (sub_cons rfl (sub_cons rfl sub_nil))))))
              case hi_57 => exact ⟨by omega, by omega, noB_next hno1 (hj0 (by assumption))⟩
              case hm_57 => omega
        · try simp only [decide_eq_true_eq, decide_eq_false_iff_not, Bool.not_eq_true', Bool.not_eq_false', Bool.not_eq_eq_eq_not, Bool.not_true, Bool.not_false, ne_eq, Decidable.not_not, Classical.not_not] at hs9_1
          refine g_skip (.not _ _ _ _ rfl rfl rfl rfl) rfl rfl ?_
          refine g_skip (.not _ _ _ _ rfl rfl rfl rfl) rfl rfl ?_
          refine g_skip (.not _ _ _ _ rfl rfl rfl rfl) rfl rfl ?_
          refine g_skip (.not _ _ _ _ rfl rfl rfl rfl) rfl rfl ?_
          refine g_v (.free rfl) rfl rfl (qt_pick_f rfl rfl rfl) ?_
          refine g_nil ?_
          refine gk_then (hK50 _ _ ?_)
          refine gc_cond_f rfl ?_
          refine gc_exit ?_
          refine gk_then_exit ?_
          refine gk_then_exit ?_
          refine gk_block_hit ?_
          refine gk_then (hK46 _ _ ?_)
          refine gc_seq fun K58 hK58 => ?_
          refine gc_region ?_
          refine g_v (.free rfl) rfl rfl (qt_move rfl rfl) ?_
          refine g_nil ?_
          refine gk_then (hK58 _ _ ?_)
          refine gc_cond rfl (fun hc10 => ?_) (fun hc10 => ?_)
          · try simp only [decide_eq_true_eq, decide_eq_false_iff_not, Bool.not_eq_true', Bool.not_eq_false', Bool.not_eq_eq_eq_not, Bool.not_true, Bool.not_false, ne_eq, Decidable.not_not, Classical.not_not] at hc10
            refine gc_seq fun K59 hK59 => ?_
            refine gc_region ?_
            refine g_v (.free rfl) rfl rfl (qt_assign rfl rfl) ?_
            refine g_nil ?_
            refine gk_then (hK59 _ _ ?_)
            refine gc_ret ?_
            refine gk_block_ret ?_
            refine gk_then_ret ?_
            refine gk_then_ret ?_
            refine gk_block_ret ?_
            refine gk_block_ret ?_
            refine gk_then_ret ?_
            refine gk_then_ret ?_
            refine gk_block_ret ?_
            refine gk_then_ret ?_
            refine ret_1 rfl rfl  (fun w M => ?_)
            have hb : badJ c fs k l := badJ_of hj hj1 (by assumption) (by first | (right; assumption) | (left; omega))
            rw [bP_f (join_not hS hx hne hes (by omega) (by omega) hb)]; exact ⟨rfl, M.1⟩
          · try simp only [decide_eq_true_eq, decide_eq_false_iff_not, Bool.not_eq_true', Bool.not_eq_false', Bool.not_eq_eq_eq_not, Bool.not_true, Bool.not_false, ne_eq, Decidable.not_not, Classical.not_not] at hc10
            refine gc_skip ?_
            refine gk_block ?_
            refine gk_then (hK14 _ _ ?_)
            refine gc_region ?_
            refine g_v (.free rfl) rfl rfl (qt_move rfl rfl) ?_
            refine g_v (.free rfl) rfl rfl (qt_add rfl rfl rfl (by omega)) ?_
            refine g_v (.free rfl) rfl rfl (qt_assign rfl rfl) ?_
            refine g_nil ?_
            refine gk_then (gk_take 1 ?_)
            refine gk_sub ?hs_60 (hKL11 (l + 1) ?hi_60 ?hm_60)
            case hs_60 => exact (sub_cons rfl (sub_cons rfl (sub_cons rfl (sub_cons rfl (sub_cons rfl (sub_cons rfl sub_nil))))))
            case hi_60 => exact ⟨by omega, by omega, noB_next hno1 (hj0 (by assumption))⟩
            case hm_60 => omega
    · try simp only [decide_eq_true_eq, decide_eq_false_iff_not, Bool.not_eq_true', Bool.not_eq_false', Bool.not_eq_eq_eq_not, Bool.not_true, Bool.not_false, ne_eq, Decidable.not_not, Classical.not_not] at hc1
      refine gc_exit ?_
      refine gk_then_exit ?_
      refine gk_then_exit ?_
      refine gk_block_hit ?_
      refine gk_block ?_
      refine gk_then (hK9 _ _ ?_)
      refine gc_region ?_
      refine g_v (.free rfl) rfl rfl (qt_move rfl rfl) ?_
      refine g_v (.free rfl) rfl rfl (qt_add rfl rfl rfl (by omega)) ?_
      refine g_v (.free rfl) rfl rfl (qt_assign rfl rfl) ?_
      refine g_nil ?_
      refine gk_then (gk_take 1 ?_)
      refine gk_sub ?hs_61 (hKL6 (k + 1) ?hi_61 ?hm_61)
      case hs_61 => exact (sub_cons rfl (sub_cons rfl (sub_cons rfl (sub_cons rfl sub_nil))))
      case hi_61 => exact ⟨by omega, noB_end hno1 (by omega)⟩
      case hm_61 => omega
  · try simp only [decide_eq_true_eq, decide_eq_false_iff_not, Bool.not_eq_true', Bool.not_eq_false', Bool.not_eq_eq_eq_not, Bool.not_true, Bool.not_false, ne_eq, Decidable.not_not, Classical.not_not] at hc0
    refine gc_exit ?_
    refine gk_then_exit ?_
    refine gk_then_exit ?_
    refine gk_block_hit ?_
    refine gk_then (hK4 _ _ ?_)
    refine gc_seq fun K62 hK62 => ?_
    refine gc_region ?_
    refine g_v (.free rfl) rfl rfl (qt_assign rfl rfl) ?_
    refine g_nil ?_
    refine gk_then (hK62 _ _ ?_)
    refine gc_ret ?_
    refine ret_1 rfl rfl  (fun w M => ?_)
    obtain rfl : k = c.s.length := by omega
    rw [bP_t (join_of hS hx hne hes hno)]; exact ⟨rfl, M.1⟩

set_option maxHeartbeats 1000000 in
set_option maxRecDepth 100000 in
theorem spec_IsJointlyMono (w : World) (v : Value) (c : Cat) (u : Value) (fs : List Int) (h : RdC w v c) (hu : Rd w u fs) :
    Calls Try.prog 14 #[v, u] w (RetBI w (fIsJointlyMono c fs).1 (fIsJointlyMono c fs).2) := by
  have h0 := h
  obtain ⟨va, vb, vc, vd, ve, vf, vg, vh, rfl, h1, h2, h3, h4, _⟩ := h.lists
  obtain ⟨ua, uc, rfl⟩ := rd_form hu
  go_enter Try.func14, Try.ntmps14
  refine gc_enter (N := 21) rfl (look_cons (k := 0) rfl (look_cons (k := 1) rfl (look_nil _))) ?_
  refine gc_seq fun K1 hK1 => ?_
  refine gc_region ?_
  refine g_op (.free rfl) fun K3 hK3 => ?_
  refine go_box rfl rfl rfl rfl rfl ?_
  intro B2
  refine hK3 _ _ ?_
  refine g_v (.free rfl) rfl rfl (qt_assign rfl rfl) ?_
  refine g_v (.free rfl) rfl rfl (qt_assign rfl rfl) ?_
  refine g_nil ?_
  refine gk_then (hK1 _ _ ?_)
  refine gc_seq fun K4 hK4 => ?_
  refine gc_region ?_
  refine g_v (.free rfl) rfl rfl (qt_loadS (n := 0) rfl rfl Try.underlying29 rfl (by kernel_rfl) rfl) ?_
  refine g_v (.free rfl) rfl rfl (qt_move rfl rfl) ?_
  refine g_q (.free rfl) rfl rfl (qt_call rfl Try.func66 rfl (by decide) rfl (fun w M => l05List_any w _ _ _ _ (mem_rdC M h0) (mem_rd M hu))) ?_
  refine g_v (.free rfl) rfl rfl (qt_assign rfl rfl) ?_
  refine g_nil ?_
  refine gk_then (hK4 _ _ ?_)
  refine gc_seq fun K5 hK5 => ?_
  refine gc_seq fun K6 hK6 => ?_
  refine gc_region ?_
  refine g_v (.free rfl) rfl rfl (qt_move rfl rfl) ?_
  refine g_v (.free rfl) rfl rfl (qt_neq rfl rfl rfl) ?_
  refine g_nil ?_
  refine gk_then (hK6 _ _ ?_)
  refine gc_cond rfl (fun hc0 => ?_) (fun hc0 => ?_)
  · try simp only [decide_eq_true_eq, decide_eq_false_iff_not, Bool.not_eq_true', Bool.not_eq_false', Bool.not_eq_eq_eq_not, Bool.not_true, Bool.not_false, ne_eq, Decidable.not_not, Classical.not_not] at hc0
    refine gc_seq fun K7 hK7 => ?_
    refine gc_region ?_
    refine g_v (.free rfl) rfl rfl (qt_move rfl rfl) ?_
    refine g_v (.free rfl) rfl rfl (qt_assign rfl rfl) ?_
    refine g_v (.free rfl) rfl rfl (qt_assign rfl rfl) ?_
    refine g_nil ?_
    refine gk_then (hK7 _ _ ?_)
    refine gc_ret ?_
    refine gk_then_ret ?_
    refine ret_2 rfl rfl rfl  (fun w M => ?_)
    have hne : ¬ listErr c fs = 0 := hc0
    rw [jMono_eq]
    rw [jAns_l hne]; exact ⟨rfl, M.1⟩
  · try simp only [decide_eq_true_eq, decide_eq_false_iff_not, Bool.not_eq_true', Bool.not_eq_false', Bool.not_eq_eq_eq_not, Bool.not_true, Bool.not_false, ne_eq, Decidable.not_not, Classical.not_not] at hc0
    refine gc_skip ?_
    refine gk_then (hK5 _ _ ?_)
    refine gc_seq fun K8 hK8 => ?_
    refine gc_seq fun K9 hK9 => ?_
    have hL := listErr_0 hc0
    have hA := hL.1
    have hne := hL.2
    have hE := arrErr_0 hA
    have hC := hE.1
    have hS := hC.toShapeP
    have hx := hE.2
    have htl := hS.tl
    have hxt : AllP c.t.length fs := by rw [htl]; exact hx
    refine gc_region ?_
    refine g_v (.free rfl) rfl rfl (qt_field (z := 0) (off := 1) rfl rfl Try.underlying29 rfl (by kernel_rfl) rfl) ?_
    refine g_v (.free rfl) rfl rfl (qt_loadB (n := 0) rfl rfl Try.underlying22 rfl rfl rfl) ?_
    refine g_v (.free rfl) rfl rfl (qt_move rfl rfl) ?_
    refine g_q (.free rfl) rfl rfl (qt_call rfl Try.func67 rfl (by decide) rfl (fun w M => l05Ends_any w _ _ _ _ (mem_rd M h1) (mem_rd M hu) (by first | assumption | omega) (by first | assumption | omega))) ?_
    refine g_v (.free rfl) rfl rfl (qt_not rfl rfl) ?_
    refine g_nil ?_
    refine gk_then (hK9 _ _ ?_)
    refine gc_cond rfl (fun hc1 => ?_) (fun hc1 => ?_)
    · try simp only [decide_eq_true_eq, decide_eq_false_iff_not, Bool.not_eq_true', Bool.not_eq_false', Bool.not_eq_eq_eq_not, Bool.not_true, Bool.not_false, ne_eq, Decidable.not_not, Classical.not_not] at hc1
      refine gc_seq fun K10 hK10 => ?_
      refine gc_region ?_
      refine g_v (.free rfl) rfl rfl (qt_assign rfl rfl) ?_
      refine g_v (.free rfl) rfl rfl (qt_assign rfl rfl) ?_
      refine g_nil ?_
      refine gk_then (hK10 _ _ ?_)
      refine gc_ret ?_
      refine gk_then_ret ?_
      refine ret_2 rfl rfl rfl  (fun w M => ?_)
      rw [jMono_eq, jAns_f hA (by rw [famErr_e hne (bP_f' hc1)]; decide)]; exact ⟨rfl, M.1⟩
    · try simp only [decide_eq_true_eq, decide_eq_false_iff_not, Bool.not_eq_true', Bool.not_eq_false', Bool.not_eq_eq_eq_not, Bool.not_true, Bool.not_false, ne_eq, Decidable.not_not, Classical.not_not] at hc1
      refine gc_skip ?_
      refine gk_then (hK8 _ _ ?_)
      refine gc_seq fun K11 hK11 => ?_
      have hes := bP_t' hc1
      refine gc_region ?_
      refine g_v (.free rfl) rfl rfl (qt_loadS (n := 0) rfl rfl Try.underlying29 rfl (by kernel_rfl) rfl) ?_
      refine g_v (.free rfl) rfl rfl (qt_move rfl rfl) ?_
      refine g_q (.free rfl) rfl rfl (qt_call rfl Try.func68 rfl (by decide) rfl (fun w M => specJoint_any w _ _ _ _ (mem_rdC M h0) (mem_rd M hu) (by first | assumption | omega) (by first | assumption | omega) (by first | assumption | omega) (by first | assumption | omega))) ?_
      refine g_v (.free rfl) rfl rfl (qt_assign rfl rfl) ?_
      refine g_v (.free rfl) rfl rfl (qt_assign rfl rfl) ?_
      refine g_nil ?_
      refine gk_then (hK11 _ _ ?_)
      refine gc_ret ?_
      refine ret_2 rfl rfl rfl  (fun w M => ?_)
      rw [jMono_eq, jAns_t hA (famErr_z hne hes)]; exact ⟨rfl, M.1⟩

set_option maxHeartbeats 1000000 in
set_option maxRecDepth 100000 in
theorem spec_IsJointlyEpi (w : World) (v : Value) (c : Cat) (u : Value) (fs : List Int) (h : RdC w v c) (hu : Rd w u fs) :
    Calls Try.prog 20 #[v, u] w (RetBI w (fIsJointlyEpi c fs).1 (fIsJointlyEpi c fs).2) := by
  have h0 := h
  obtain ⟨va, vb, vc, vd, ve, vf, vg, vh, rfl, h1, h2, h3, h4, _⟩ := h.lists
  obtain ⟨ua, uc, rfl⟩ := rd_form hu
  go_enter Try.func20, Try.ntmps20
  refine gc_enter (N := 22) rfl (look_cons (k := 0) rfl (look_cons (k := 1) rfl (look_nil _))) ?_
  refine gc_seq fun K1 hK1 => ?_
  refine gc_region ?_
  refine g_op (.free rfl) fun K3 hK3 => ?_
  refine go_box rfl rfl rfl rfl rfl ?_
  intro B2
  refine hK3 _ _ ?_
  refine g_v (.free rfl) rfl rfl (qt_assign rfl rfl) ?_
  refine g_v (.free rfl) rfl rfl (qt_assign rfl rfl) ?_
  refine g_nil ?_
  refine gk_then (hK1 _ _ ?_)
  refine gc_seq fun K4 hK4 => ?_
  refine gc_region ?_
  refine g_v (.free rfl) rfl rfl (qt_loadS (n := 0) rfl rfl Try.underlying29 rfl (by kernel_rfl) rfl) ?_
  refine g_v (.free rfl) rfl rfl (qt_move rfl rfl) ?_
  refine g_q (.free rfl) rfl rfl (qt_call rfl Try.func66 rfl (by decide) rfl (fun w M => l05List_any w _ _ _ _ (mem_rdC M h0) (mem_rd M hu))) ?_
  refine g_v (.free rfl) rfl rfl (qt_assign rfl rfl) ?_
  refine g_nil ?_
  refine gk_then (hK4 _ _ ?_)
  refine gc_seq fun K5 hK5 => ?_
  refine gc_seq fun K6 hK6 => ?_
  refine gc_region ?_
  refine g_v (.free rfl) rfl rfl (qt_move rfl rfl) ?_
  refine g_v (.free rfl) rfl rfl (qt_neq rfl rfl rfl) ?_
  refine g_nil ?_
  refine gk_then (hK6 _ _ ?_)
  refine gc_cond rfl (fun hc0 => ?_) (fun hc0 => ?_)
  · try simp only [decide_eq_true_eq, decide_eq_false_iff_not, Bool.not_eq_true', Bool.not_eq_false', Bool.not_eq_eq_eq_not, Bool.not_true, Bool.not_false, ne_eq, Decidable.not_not, Classical.not_not] at hc0
    refine gc_seq fun K7 hK7 => ?_
    refine gc_region ?_
    refine g_v (.free rfl) rfl rfl (qt_move rfl rfl) ?_
    refine g_v (.free rfl) rfl rfl (qt_assign rfl rfl) ?_
    refine g_v (.free rfl) rfl rfl (qt_assign rfl rfl) ?_
    refine g_nil ?_
    refine gk_then (hK7 _ _ ?_)
    refine gc_ret ?_
    refine gk_then_ret ?_
    refine ret_2 rfl rfl rfl  (fun w M => ?_)
    have hne : ¬ listErr c fs = 0 := hc0
    rw [jEpi_eq]
    rw [jAns_l hne]; exact ⟨rfl, M.1⟩
  · try simp only [decide_eq_true_eq, decide_eq_false_iff_not, Bool.not_eq_true', Bool.not_eq_false', Bool.not_eq_eq_eq_not, Bool.not_true, Bool.not_false, ne_eq, Decidable.not_not, Classical.not_not] at hc0
    refine gc_skip ?_
    refine gk_then (hK5 _ _ ?_)
    refine gc_seq fun K8 hK8 => ?_
    refine gc_seq fun K9 hK9 => ?_
    have hL := listErr_0 hc0
    have hA := hL.1
    have hne := hL.2
    have hE := arrErr_0 hA
    have hC := hE.1
    have hS := hC.toShapeP
    have hx := hE.2
    have htl := hS.tl
    have hxt : AllP c.t.length fs := by rw [htl]; exact hx
    refine gc_region ?_
    refine g_v (.free rfl) rfl rfl (qt_field (z := 0) (off := 2) rfl rfl Try.underlying29 rfl (by kernel_rfl) rfl) ?_
    refine g_v (.free rfl) rfl rfl (qt_loadB (n := 0) rfl rfl Try.underlying22 rfl rfl rfl) ?_
    refine g_v (.free rfl) rfl rfl (qt_move rfl rfl) ?_
    refine g_q (.free rfl) rfl rfl (qt_call rfl Try.func67 rfl (by decide) rfl (fun w M => l05Ends_any w _ _ _ _ (mem_rd M h2) (mem_rd M hu) (by first | assumption | omega) (by first | assumption | omega))) ?_
    refine g_v (.free rfl) rfl rfl (qt_not rfl rfl) ?_
    refine g_nil ?_
    refine gk_then (hK9 _ _ ?_)
    refine gc_cond rfl (fun hc1 => ?_) (fun hc1 => ?_)
    · try simp only [decide_eq_true_eq, decide_eq_false_iff_not, Bool.not_eq_true', Bool.not_eq_false', Bool.not_eq_eq_eq_not, Bool.not_true, Bool.not_false, ne_eq, Decidable.not_not, Classical.not_not] at hc1
      refine gc_seq fun K10 hK10 => ?_
      refine gc_region ?_
      refine g_v (.free rfl) rfl rfl (qt_assign rfl rfl) ?_
      refine g_v (.free rfl) rfl rfl (qt_assign rfl rfl) ?_
      refine g_nil ?_
      refine gk_then (hK10 _ _ ?_)
      refine gc_ret ?_
      refine gk_then_ret ?_
      refine ret_2 rfl rfl rfl  (fun w M => ?_)
      rw [jEpi_eq, jAns_f hA (by rw [famErr_e hne (bP_f' hc1)]; decide)]; exact ⟨rfl, M.1⟩
    · try simp only [decide_eq_true_eq, decide_eq_false_iff_not, Bool.not_eq_true', Bool.not_eq_false', Bool.not_eq_eq_eq_not, Bool.not_true, Bool.not_false, ne_eq, Decidable.not_not, Classical.not_not] at hc1
      refine gc_skip ?_
      refine gk_then (hK8 _ _ ?_)
      refine gc_seq fun K11 hK11 => ?_
      have hes := bP_t' hc1
      refine gc_region ?_
      refine g_v (.free rfl) rfl rfl (qt_loadS (n := 0) rfl rfl Try.underlying29 rfl (by kernel_rfl) rfl) ?_
      refine g_op (.free rfl) fun K13 hK13 => ?_
      refine go_callC rfl rfl rfl Try.func74 rfl (by decide) rfl (fun w M => specOp_any w _ _ (mem_rdC M h0) (by first | assumption | omega)) ?_
      intro ca12 cb12 cc12 cd12 ce12 cf12 cg12 ch12 cu12
      refine hK13 _ _ ?_
      refine g_v (.free rfl) rfl rfl (qt_move rfl rfl) ?_
      refine g_q (.free rfl) rfl rfl (qt_call rfl Try.func68 rfl (by decide) rfl (fun w M => specJoint_any w _ (oppM c) _ _ (rdC_mk ((mem_own1 (n := 1) M rfl).rd) ((mem_own1 (n := 2) M rfl).rd) ((mem_own1 (n := 3) M rfl).rd) (mem_rdU (n := 4) M rfl)) (mem_rd M hu) (opp_shape hS) (by rw [opp_len hS]; exact hx) (by first | assumption | omega) (hes))) ?_
      refine g_v (.free rfl) rfl rfl (qt_assign rfl rfl) ?_
      refine g_v (.free rfl) rfl rfl (qt_assign rfl rfl) ?_
      refine g_nil ?_
      refine gk_then (hK11 _ _ ?_)
      refine gc_ret ?_
      refine ret_2 rfl rfl rfl  (fun w M => ?_)
      rw [jEpi_eq, jAns_t hA (famErr_z hne hes), ← bP_congr (opp_join hS hx)]; exact ⟨rfl, M.1⟩

end Go.Proofs.Ytloaikmiofdhnab
