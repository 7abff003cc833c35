import Derived.Test.YtpfcfhjpgngneacS1
import Derived.Test.YtpfcfhjpgngneacS4
import Derived.Test.YtpfcfhjpgngneacS29
import Derived.Test.YtpfcfhjpgngneacS9
set_option linter.unusedSimpArgs false
set_option linter.unusedVariables false
set_option linter.unusedSectionVars false
namespace Go.Proofs.Ytpfcfhjpgngneac
open Go.RowKit
open Go.ChangeShapes Go.WideShapes Go.ChangeAt
set_option maxRecDepth 100000 in
theorem cells8 : Try.prog.cellsOf 5 = 1 := by kernel_rfl
set_option maxRecDepth 100000 in
theorem open_inb {H : Type} {enc : TypeId × Value → H} {w : World} {v : Value} {d : DataW H} {ps : List MemPlace} {base : Nat}
    (hv : Value.okWide Try.prog w .any base 22 v) (h : DataW.Trod enc Try.prog w 0 (fun _ => true) true 22 v d ps) : InB w v := by
  obtain ⟨a0, len, cap, rfl⟩ := okWide_slice Try.underlying22 hv
  obtain ⟨fuel, hf⟩ := h
  rcases open_ints Try.underlying22 Try.underlying5 cells8 hf with ⟨hcs, _⟩ | ⟨a, len', cap', zs, hcs, _, hl, hm, hz, _, hcell, hwz⟩
  · simp [Value.cells] at hcs
    obtain ⟨rfl, rfl, rfl⟩ := hcs
    exact ⟨none, 0, 0, rfl, by omega, fun j hj => absurd hj (Nat.not_lt_zero _)⟩
  · simp [Value.cells] at hcs
    obtain ⟨rfl, rfl, rfl⟩ := hcs
    simp only [if_true] at hz
    refine ⟨some a, len, cap, rfl, by unfold maxLen at hm; omega, fun j hj => ?_⟩
    obtain ⟨b, off, spot⟩ := a
    have hspot : spot = none := by simpa [Addr.add] using World.cell?_spot (hcell 0 (by omega))
    subst hspot
    refine ⟨b, off, rfl, World.block_lt_of_cell? w _ (by simpa using hcell 0 (by omega)), fun i hi => ?_⟩
    have hh := hcell i (by omega)
    rw [Addr.add_lit] at hh
    have hw := hwz (zs.getD i 0) (by rw [List.getD_eq_getElem?_getD, List.getElem?_eq_getElem (by omega)]; exact List.getElem_mem _)
    refine ⟨_, hh, ?_⟩
    have hw2 : IntKind.u8.min ≤ zs.getD i 0 ∧ zs.getD i 0 ≤ IntKind.u8.max := by simpa [Lit.wf] using hw
    have m1 : IntKind.u8.min = 0 := by decide
    have m2 : IntKind.u8.max = 255 := by decide
    omega
end Go.Proofs.Ytpfcfhjpgngneac
set_option linter.unusedSimpArgs false
set_option linter.unusedVariables false
set_option linter.unusedSectionVars false
namespace Go.Proofs.Ytpfcfhjpgngneac
open Go.RowKit
theorem RdC.l4 {w : World} {c : Cat} {o a b d m : Value} (h : RdC w (.agg #[o, a, b, d, m]) c) : Rd2 w m c.m := by obtain ⟨vs, vt, ve, vm, hv, h1, h2, h3, h4⟩ := h; simp only [Value.agg.injEq, Array.mk.injEq, List.cons.injEq] at hv; obtain ⟨_, rfl, rfl, rfl, rfl, _⟩ := hv; exact h4
theorem firstN_lt {p : Nat → Prop} {n k : Nat} (h : firstN p n = some k) : k < n := by
  unfold firstN at h
  exact List.mem_range.1 (List.mem_of_find?_eq_some h)
theorem fau_as {c : Cat} (h : (faultOf c).1 = 2) : ∃ f g k : Nat, f < c.s.length ∧ g < c.s.length ∧ k < c.s.length ∧ badAs c f g k ∧ faultOf c = (2, (f : Int), (g : Int), (k : Int)) := by
  unfold faultOf at h ⊢
  cases h1 : firstN (fun f => badId c f) c.s.length with
  | some f => rw [h1] at h; simp at h
  | none =>
    rw [h1] at h
    simp only at h ⊢
    cases h2 : first3 (fun f g h : Nat => badAs c f g h) c.s.length with
    | none => rw [h2] at h; simp at h
    | some r =>
      obtain ⟨f, g, k⟩ := r
      have h3 := h2
      unfold first3 at h3
      cases e1 : firstN (fun f : Nat => ∃ g h : Nat, g < c.s.length ∧ h < c.s.length ∧ badAs c f g h) c.s.length with
      | none => rw [e1] at h3; cases h3
      | some f1 =>
        rw [e1] at h3
        simp only at h3
        cases e2 : firstN (fun g : Nat => ∃ h : Nat, h < c.s.length ∧ badAs c f1 g h) c.s.length with
        | none => rw [e2] at h3; cases h3
        | some g1 =>
          rw [e2] at h3
          simp only at h3
          cases e3 : firstN (fun h : Nat => badAs c f1 g1 h) c.s.length with
          | none => rw [e3] at h3; cases h3
          | some k1 =>
            rw [e3] at h3
            simp only [Option.some.injEq, Prod.mk.injEq] at h3
            obtain ⟨rfl, rfl, rfl⟩ := h3
            exact ⟨_, _, _, firstN_lt e1, firstN_lt e2, firstN_lt e3, firstN_prop e3, rfl⟩
theorem fau_bad {c : Cat} {A F G H r : Int} (h : fFirstFault c = (A, F, G, H, r)) (hr : r ≠ 0) : fIsShape c = false ∧ fIsCategory c = false := by
  cases hs : fIsShape c
  · exact ⟨rfl, isCat_f (.inl hs)⟩
  · rw [fFirst_t hs] at h
    exact absurd (show r = 0 from (congrArg (fun p => p.2.2.2.2) h).symm) hr
theorem fau_ok {c : Cat} {A F G H r : Int} (h : fFirstFault c = (A, F, G, H, r)) (hr : r = 0) : ShapeP c ∧ fIsCategory c = decide (A = 0) ∧ (A = 2 → ∃ f g k : Nat, f < c.s.length ∧ g < c.s.length ∧ k < c.s.length ∧ badAs c f g k ∧ F = f ∧ G = g ∧ H = k) := by
  cases hs : fIsShape c
  · rw [fFirst_f hs] at h
    exact absurd (show (1 : Int) = 0 from (congrArg (fun p => p.2.2.2.2) h).trans hr) (by decide)
  · rw [fFirst_t hs] at h
    have hA : (faultOf c).1 = A := congrArg (fun p => p.1) h
    have hF : (faultOf c).2.1 = F := congrArg (fun p => p.2.1) h
    have hG : (faultOf c).2.2.1 = G := congrArg (fun p => p.2.2.1) h
    have hH : (faultOf c).2.2.2 = H := congrArg (fun p => p.2.2.2.1) h
    refine ⟨shape_iff.1 hs, ?_, fun h2 => ?_⟩
    · by_cases h0 : A = 0
      · rw [isCat_t hs (hA.trans h0), decide_eq_true h0]
      · rw [isCat_f (.inr (by rw [hA]; exact h0)), decide_eq_false h0]
    · obtain ⟨f, g, k, hf, hg, hk, hb, he⟩ := fau_as (c := c) (hA.trans h2)
      rw [he] at hF hG hH
      exact ⟨f, g, k, hf, hg, hk, hb, hF.symm, hG.symm, hH.symm⟩
theorem bigT_any (w : World) (a : Option Addr) (len cap : Nat) (hl : len ≤ 9223372036854775807) : Calls Try.prog 11 #[.slice a len cap] w (RetB w (decide (4096 < (len : Int)))) := by
  go_enter Try.func11, Try.ntmps11
  go_wp2
  go_ret
  exact ⟨by simp, (Below.refl _ _)⟩
theorem run_equalIn_boolF (w : World) (d : Nat) (t : TypeId) (a b : Bool) (h : Try.prog.underlying t = some .bool) : (Op.equalIn (d + 1) t (.bool a) (.bool b)).run Try.prog w = .ok (a == b) w := by simp [Op.equalIn, run_underlying h, Sem.run_bind, Sem.run_pure]
theorem run_equal_boolF (w : World) (t : TypeId) (a b : Bool) (h : Try.prog.underlying t = some .bool) : (Op.equal t (.bool a) (.bool b)).run Try.prog w = .ok (a == b) w := run_equalIn_boolF w 9999 t a b h
section
variable {w0 : World} {is : List Itm} {o : Oper} {e : Env}
theorem qt_neBBF_f {x y : Operand} {t u : TypeId} {a b : Bool} (hop : o.op = .binOp .neq t x y u) (hx : evo e x = some (.bool a)) (hy : evo e y = some (.bool b)) (ht : Try.prog.underlying t = some .bool) (h : a = b) : QV w0 is o e (.bool false) :=
  fun w ac M F => by
    have hx := F _ _ hx; have hy := F _ _ hy
    subst h
    simp [execOp, hop, hx, hy, eqGuard, binOp, Sem.run_bind, Sem.run_pure, run_equal_boolF w t a a ht]
end
set_option maxHeartbeats 1000000 in
set_option maxRecDepth 100000 in
theorem drawFirstFault_any (w : World) (ca : Option Addr) (clen ccap : Nat) (h : InB w (.slice ca clen ccap)) :
    Calls Try.prog 38 #[.slice ca clen ccap] w (RetHV w (fun c (_ : Unit) => DrawP c) (fun _ v => v)) := by
  go_enter Try.func38, Try.ntmps38
  refine gc_enter (N := 5) rfl (look_cons (k := 0) rfl (look_nil _)) ?_
  refine gc_seq fun K1 hK1 => ?_
  refine gc_region ?_
  refine g_op (.free rfl) fun K3 hK3 => ?_
  refine go_alloc (z := (.agg #[.int .i64 0, .slice none 0 0, .slice none 0 0, .slice none 0 0, .slice none 0 0])) (cs := [.int .i64 0, .slice none 0 0, .slice none 0 0, .slice none 0 0, .slice none 0 0]) rfl rfl rfl (fun w => by kernel_rfl) rfl ?_
  intro B2
  refine hK3 _ _ ?_
  refine g_nil ?_
  refine gk_then (hK1 _ _ ?_)
  refine gc_seq fun K4 hK4 => ?_
  refine gc_region ?_
  refine g_v (.free rfl) rfl rfl (qt_move rfl rfl) ?_
  refine g_op (.free rfl) fun K6 hK6 => ?_
  refine go_callHV (α := Unit) (P := fun c _ => DrawP c) (V := fun _ v => v) rfl rfl rfl Try.func98 rfl (by decide) rfl (fun w M => drawTurned_any w ca clen ccap (inb_below M.1 h)) ?_
  intro c u_ ca1 cb1 cc1 cd1 ce1 cf1 cg1 ch1 hdraw
  refine hK6 _ _ ?_
  refine g_op (.free rfl) fun K7 hK7 => ?_
  refine go_storeS (n := 0) rfl rfl rfl rfl (by kernel_rfl) rfl rfl rfl ?_
  refine hK7 _ _ ?_
  refine g_nil ?_
  refine gk_then (hK4 _ _ ?_)
  refine gc_ret ?_
  refine ret_S (n := 0) rfl rfl Try.underlying27 rfl (by kernel_rfl) rfl (fun w M => ?_)
  exact ⟨_, _, (), hdraw, rfl, M.1, mem_heldP (n := 1) M rfl⟩
set_option maxHeartbeats 8000000 in
set_option maxRecDepth 100000 in
theorem fauWalk (w : World) (ca : Option Addr) (clen ccap : Nat) (h : InB w (.slice ca clen ccap)) (hcl : clen ≤ 9223372036854775807) :
    Calls Try.prog 7 #[.slice ca clen ccap] w (RetB w true) := by
  go_enter Try.func7, Try.ntmps7
  refine gc_enter (N := 105) rfl (look_cons (k := 0) rfl (look_nil _)) ?_
  refine gc_seqR fun K1 hK1 => ?_
  refine gc_region ?_
  refine g_v (.free rfl) rfl rfl (qt_assign rfl rfl) ?_
  refine g_nil ?_
  refine gk_then (hK1 _ _ ?_)
  refine gc_seqR fun K2 hK2 => ?_
  refine gc_seqR fun K3 hK3 => ?_
  refine gc_region ?_
  refine g_v (.free rfl) rfl rfl (qt_move rfl rfl) ?_
  refine g_q (.free rfl) rfl rfl (qt_call rfl Try.func11 rfl (by decide) rfl (fun w M => bigT_any w _ _ _ (by first | assumption | omega))) ?_
  refine g_nil ?_
  refine gk_then (hK3 _ _ ?_)
  refine gc_cond rfl (fun hc0 => ?_) (fun hc0 => ?_)
  · try simp only [decide_eq_true_eq, decide_eq_false_iff_not, Bool.not_eq_true', Bool.not_eq_false', Bool.not_eq_eq_eq_not, Bool.not_true, Bool.not_false, ne_eq, Decidable.not_not, Classical.not_not] at hc0
    refine gc_seqR fun K4 hK4 => ?_
    refine gc_region ?_
    refine g_v (.free rfl) rfl rfl (qt_assign rfl rfl) ?_
    refine g_nil ?_
    refine gk_then (hK4 _ _ ?_)
    refine gc_ret ?_
    refine gk_then_ret ?_
    refine ret_1 rfl rfl  (fun w M => ?_)
    exact ⟨rfl, M.1⟩
  · try simp only [decide_eq_true_eq, decide_eq_false_iff_not, Bool.not_eq_true', Bool.not_eq_false', Bool.not_eq_eq_eq_not, Bool.not_true, Bool.not_false, ne_eq, Decidable.not_not, Classical.not_not] at hc0
    refine gc_skip ?_
    refine gk_then (hK2 _ _ ?_)
    refine gc_seqR fun K5 hK5 => ?_
    refine gc_region ?_
    refine g_v (.free rfl) rfl rfl (qt_move rfl rfl) ?_
    refine g_op (.free rfl) fun K7 hK7 => ?_
    refine go_callHV (α := Unit) (P := fun c _ => DrawP c) (V := fun _ v => v) rfl rfl rfl Try.func38 rfl (by decide) rfl (fun w M => drawFirstFault_any w ca clen ccap (inb_below M.1 h)) ?_
    intro c u_ ca1 cb1 cc1 cd1 ce1 cf1 cg1 ch1 hdraw
    refine hK7 _ _ ?_
    refine g_op (.free rfl) fun K9 hK9 => ?_
    refine go_alloc (z := (.agg #[.int .i64 0, .slice none 0 0, .slice none 0 0, .slice none 0 0, .slice none 0 0])) (cs := [.int .i64 0, .slice none 0 0, .slice none 0 0, .slice none 0 0, .slice none 0 0]) rfl rfl rfl (fun w => by kernel_rfl) rfl ?_
    intro B8
    refine hK9 _ _ ?_
    refine g_op (.free rfl) fun K10 hK10 => ?_
    refine go_storeS (n := 1) rfl rfl rfl rfl (by kernel_rfl) rfl rfl rfl ?_
    refine hK10 _ _ ?_
    refine g_nil ?_
    refine gk_then (hK5 _ _ ?_)
    refine gc_seqR fun K11 hK11 => ?_
    obtain ⟨A, F1, G1, H1, r, hP⟩ : ∃ A F G H r, fFirstFault c = (A, F, G, H, r) := ⟨_, _, _, _, _, rfl⟩
    have HPi := fun (w : World) (v : Value) (h1 : RdC w v c) => impl_FirstFault w v c h1
    simp only [hP] at HPi
    have HPs := fun (w : World) (v : Value) (h1 : RdC w v c) => spec_FirstFault w v c h1
    simp only [hP] at HPs
    refine gc_rebase fun w1 M1 => ?_
    have hb3 := bxV_of (n := 1) M1 rfl
    have hR3 := (mem_held (n := 0) M1 rfl)
    have hR30 := hR3
    skip
    refine gc_region ?_
    refine g_v (.free rfl) rfl rfl (qt_loadRS hb3 rfl rfl Try.underlying27 rfl (by kernel_rfl)) ?_
    refine g_q (.free rfl) rfl rfl (qt_call rfl Try.func39 rfl (by decide) rfl (fun w M => HPi w _ (mem_rdC M hR3))) ?_
    refine g_v (.free rfl) rfl rfl (qt_move rfl rfl) ?_
    refine g_v (.free rfl) rfl rfl (qt_extract rfl rfl rfl) ?_
    refine g_v (.free rfl) rfl rfl (qt_extract rfl rfl rfl) ?_
    refine g_v (.free rfl) rfl rfl (qt_extract rfl rfl rfl) ?_
    refine g_v (.free rfl) rfl rfl (qt_extract rfl rfl rfl) ?_
    refine g_v (.free rfl) rfl rfl (qt_extract rfl rfl rfl) ?_
    refine g_v (.free rfl) rfl rfl (qt_assign rfl rfl) ?_
    refine g_v (.free rfl) rfl rfl (qt_assign rfl rfl) ?_
    refine g_v (.free rfl) rfl rfl (qt_assign rfl rfl) ?_
    refine g_v (.free rfl) rfl rfl (qt_assign rfl rfl) ?_
    refine g_v (.free rfl) rfl rfl (qt_assign rfl rfl) ?_
    refine g_nil ?_
    refine gk_then (hK11 _ _ ?_)
    refine gc_seqR fun K12 hK12 => ?_
    refine gc_region ?_
    refine g_v (.free rfl) rfl rfl (qt_loadRS hb3 rfl rfl Try.underlying27 rfl (by kernel_rfl)) ?_
    refine g_q (.free rfl) rfl rfl (qt_call rfl Try.func40 rfl (by decide) rfl (fun w M => HPs w _ (mem_rdC M hR3))) ?_
    refine g_v (.free rfl) rfl rfl (qt_move rfl rfl) ?_
    refine g_v (.free rfl) rfl rfl (qt_extract rfl rfl rfl) ?_
    refine g_v (.free rfl) rfl rfl (qt_extract rfl rfl rfl) ?_
    refine g_v (.free rfl) rfl rfl (qt_extract rfl rfl rfl) ?_
    refine g_v (.free rfl) rfl rfl (qt_extract rfl rfl rfl) ?_
    refine g_v (.free rfl) rfl rfl (qt_extract rfl rfl rfl) ?_
    refine g_v (.free rfl) rfl rfl (qt_assign rfl rfl) ?_
    refine g_v (.free rfl) rfl rfl (qt_assign rfl rfl) ?_
    refine g_v (.free rfl) rfl rfl (qt_assign rfl rfl) ?_
    refine g_v (.free rfl) rfl rfl (qt_assign rfl rfl) ?_
    refine g_v (.free rfl) rfl rfl (qt_assign rfl rfl) ?_
    refine g_nil ?_
    refine gk_then (hK12 _ _ ?_)
    refine gc_seqR fun K13 hK13 => ?_
    refine gc_seqR fun K14 hK14 => ?_
    refine gc_region ?_
    refine g_v (.free rfl) rfl rfl (qt_move rfl rfl) ?_
    refine g_v (.free rfl) rfl rfl (qt_move rfl rfl) ?_
    refine g_v (.free rfl) rfl rfl (qt_neq_f rfl rfl rfl (fun h => h rfl)) ?_
    refine g_v (.free rfl) rfl rfl (qt_move rfl rfl) ?_
    refine g_v (.held _ _ _ rfl rfl rfl) rfl rfl (qt_move rfl rfl) ?_
    refine g_v (.held _ _ _ rfl rfl rfl) rfl rfl (qt_move rfl rfl) ?_
    refine g_v (.held _ _ _ rfl rfl rfl) rfl rfl (qt_neq_f rfl rfl rfl (fun h => h rfl)) ?_
    refine g_v (.free rfl) rfl rfl (qt_pick_f rfl rfl rfl) ?_
    refine g_v (.free rfl) rfl rfl (qt_move rfl rfl) ?_
    refine g_v (.held _ _ _ rfl rfl rfl) rfl rfl (qt_move rfl rfl) ?_
    refine g_v (.held _ _ _ rfl rfl rfl) rfl rfl (qt_move rfl rfl) ?_
    refine g_v (.held _ _ _ rfl rfl rfl) rfl rfl (qt_neq_f rfl rfl rfl (fun h => h rfl)) ?_
    refine g_v (.free rfl) rfl rfl (qt_pick_f rfl rfl rfl) ?_
    refine g_v (.free rfl) rfl rfl (qt_move rfl rfl) ?_
    refine g_v (.held _ _ _ rfl rfl rfl) rfl rfl (qt_move rfl rfl) ?_
    refine g_v (.held _ _ _ rfl rfl rfl) rfl rfl (qt_move rfl rfl) ?_
    refine g_v (.held _ _ _ rfl rfl rfl) rfl rfl (qt_neq_f rfl rfl rfl (fun h => h rfl)) ?_
    refine g_v (.free rfl) rfl rfl (qt_pick_f rfl rfl rfl) ?_
    refine g_v (.free rfl) rfl rfl (qt_move rfl rfl) ?_
    refine g_v (.held _ _ _ rfl rfl rfl) rfl rfl (qt_move rfl rfl) ?_
    refine g_v (.held _ _ _ rfl rfl rfl) rfl rfl (qt_move rfl rfl) ?_
    refine g_v (.held _ _ _ rfl rfl rfl) rfl rfl (qt_neq_f rfl rfl rfl (fun h => h rfl)) ?_
    refine g_v (.free rfl) rfl rfl (qt_pick_f rfl rfl rfl) ?_
    refine g_nil ?_
    refine gk_then (hK14 _ _ ?_)
    refine gc_cond_f rfl ?_
    refine gc_skip ?_
    refine gk_then (hK13 _ _ ?_)
    refine gc_seqR fun K15 hK15 => ?_
    refine gc_seqR fun K16 hK16 => ?_
    refine gc_region ?_
    refine g_v (.free rfl) rfl rfl (qt_move rfl rfl) ?_
    refine g_v (.free rfl) rfl rfl (qt_neq rfl rfl rfl) ?_
    refine g_nil ?_
    refine gk_then (hK16 _ _ ?_)
    refine gc_cond rfl (fun hc1 => ?_) (fun hc1 => ?_)
    · try simp only [decide_eq_true_eq, decide_eq_false_iff_not, Bool.not_eq_true', Bool.not_eq_false', Bool.not_eq_eq_eq_not, Bool.not_true, Bool.not_false, ne_eq, Decidable.not_not, Classical.not_not] at hc1
      refine gc_seqR fun K17 hK17 => ?_
      obtain ⟨e1, e2⟩ := fau_bad hP (by omega)
      have HSh := fun (w : World) (v : Value) (h1 : RdC w v c) => impl_IsShape w v c h1
      simp only [e1] at HSh
      have HCa := fun (w : World) (v : Value) (h1 : RdC w v c) => impl_IsCategory w v c h1
      simp only [e2] at HCa
      refine gc_region ?_
      refine g_v (.free rfl) rfl rfl (qt_loadRS hb3 rfl rfl Try.underlying27 rfl (by kernel_rfl)) ?_
      refine g_q (.free rfl) rfl rfl (qt_call rfl Try.func41 rfl (by decide) rfl (fun w M => HSh w _ (mem_rdC M hR3))) ?_
      refine g_v (.free rfl) rfl rfl (qt_not rfl rfl) ?_
      refine g_v (.free rfl) rfl rfl (qt_move rfl rfl) ?_
      refine g_v (.held _ _ _ rfl rfl rfl) rfl rfl (qt_loadRS hb3 rfl rfl Try.underlying27 rfl (by kernel_rfl)) ?_
      refine g_q (.held _ _ _ rfl rfl rfl) rfl rfl (qt_call rfl Try.func42 rfl (by decide) rfl (fun w M => HCa w _ (mem_rdC M hR3))) ?_
      refine g_v (.held _ _ _ rfl rfl rfl) rfl rfl (qt_not rfl rfl) ?_
      refine g_v (.free rfl) rfl rfl (qt_pick_t rfl rfl rfl) ?_
      refine g_v (.free rfl) rfl rfl (qt_assign rfl rfl) ?_
      refine g_nil ?_
      refine gk_then (hK17 _ _ ?_)
      refine gc_ret ?_
      refine gk_then_ret ?_
      refine ret_1 rfl rfl  (fun w M => ?_)
      exact ⟨rfl, M1.1.trans (M.1.mono M1.1.size)⟩
    · try simp only [decide_eq_true_eq, decide_eq_false_iff_not, Bool.not_eq_true', Bool.not_eq_false', Bool.not_eq_eq_eq_not, Bool.not_true, Bool.not_false, ne_eq, Decidable.not_not, Classical.not_not] at hc1
      refine gc_skip ?_
      refine gk_then (hK15 _ _ ?_)
      refine gc_seqR fun K18 hK18 => ?_
      refine gc_seqR fun K19 hK19 => ?_
      obtain ⟨hS, e2, e3⟩ := fau_ok hP (by omega)
      have HCb := fun (w : World) (v : Value) (h1 : RdC w v c) => impl_IsCategory w v c h1
      simp only [e2] at HCb
      have hn40 := hS.n40; have hml := hS.ml
      refine gc_region ?_
      refine g_v (.free rfl) rfl rfl (qt_loadRS hb3 rfl rfl Try.underlying27 rfl (by kernel_rfl)) ?_
      refine g_q (.free rfl) rfl rfl (qt_call rfl Try.func42 rfl (by decide) rfl (fun w M => HCb w _ (mem_rdC M hR3))) ?_
      refine g_v (.free rfl) rfl rfl (qt_move rfl rfl) ?_
      refine g_v (.free rfl) rfl rfl (qt_eql rfl rfl rfl) ?_
      refine g_v (.free rfl) rfl rfl (qt_neBBF_f rfl rfl rfl Try.underlying4 rfl) ?_
      refine g_nil ?_
      refine gk_then (hK19 _ _ ?_)
      refine gc_cond_f rfl ?_
      refine gc_skip ?_
      refine gk_then (hK18 _ _ ?_)
      refine gc_seqR fun K20 hK20 => ?_
      refine gc_seqR fun K21 hK21 => ?_
      refine gc_region ?_
      refine g_v (.free rfl) rfl rfl (qt_move rfl rfl) ?_
      refine g_v (.free rfl) rfl rfl (qt_eql rfl rfl rfl) ?_
      refine g_nil ?_
      refine gk_then (hK21 _ _ ?_)
      refine gc_cond rfl (fun hc2 => ?_) (fun hc2 => ?_)
      · try simp only [decide_eq_true_eq, decide_eq_false_iff_not, Bool.not_eq_true', Bool.not_eq_false', Bool.not_eq_eq_eq_not, Bool.not_true, Bool.not_false, ne_eq, Decidable.not_not, Classical.not_not] at hc2
        refine gc_seqR fun K22 hK22 => ?_
        obtain ⟨f, g, k, hf, hg, hk, ⟨b1, b2, b3⟩, rfl, rfl, rfl⟩ := e3 (by omega)
        have t1 := th_ends hS (f := (f : Int)) (g := (g : Int)) (by omega) (by omega) (by omega) (by omega) b1
        have t2 := th_ends hS (f := (g : Int)) (g := (k : Int)) (by omega) (by omega) (by omega) (by omega) b2
        have q1 := t1.1.1; have q2 := t1.1.2; have q3 := t2.1.1; have q4 := t2.1.2
        have r1 : (row2 c.m (f : Int)).length = c.s.length := by rw [row2_of, Int.toNat_natCast]; exact hS.rl _ (by omega)
        have r2 : (row2 c.m (g : Int)).length = c.s.length := by rw [row2_of, Int.toNat_natCast]; exact hS.rl _ (by omega)
        have r3 : (row2 c.m (c.th f g)).length = c.s.length := by rw [row2_of]; exact hS.rl _ (by omega)
        unfold Cat.th at q1 q2 q3 q4 r3 b3
        refine gc_draw (by kernel_rfl) ?_
        refine gd_v (.free rfl) rfl rfl (qt_field (z := 0) (off := 4) rfl rfl Try.underlying27 rfl (by kernel_rfl) rfl) ?_
        refine gd_v (.free rfl) rfl rfl (qt_loadRB hb3 rfl rfl Try.underlying25 rfl rfl) ?_
        refine gd_v (.free rfl) rfl rfl (qt_field (z := 0) (off := 4) rfl rfl Try.underlying27 rfl (by kernel_rfl) rfl) ?_
        refine gd_v (.free rfl) rfl rfl (qt_loadRB hb3 rfl rfl Try.underlying25 rfl rfl) ?_
        refine gd_v (.free rfl) rfl rfl (qt_move rfl rfl) ?_
        refine gd_v (.free rfl) rfl rfl (qt_index rfl rfl rfl ulE2 szE2 (fun w M => lenA_rd2 hR3.l4) (by omega) (by omega)) ?_
        refine gd_load2 (.free rfl) rfl rfl rfl rfl Try.underlying24 rfl hR3.l4 (by omega) (by omega) ?_
        intro ra23 rc23 hr23
        refine gd_v (.free rfl) rfl rfl (qt_move rfl rfl) ?_
        refine gd_v (.free rfl) rfl rfl (qt_index rfl rfl rfl ulE1 szE1 (fun w M => lenA_rd hr23) (by omega) (by omega)) ?_
        refine gd_v (.free rfl) rfl rfl (qt_load1 rfl rfl Try.underlying2 rfl (fun w M => mem_rd M hr23) (by omega) (by omega)) ?_
        refine gd_v (.free rfl) rfl rfl (qt_index rfl rfl rfl ulE2 szE2 (fun w M => lenA_rd2 hR3.l4) (by omega) (by omega)) ?_
        refine gd_load2 (.free rfl) rfl rfl rfl rfl Try.underlying24 rfl hR3.l4 (by omega) (by omega) ?_
        intro ra24 rc24 hr24
        refine gd_v (.free rfl) rfl rfl (qt_move rfl rfl) ?_
        refine gd_v (.free rfl) rfl rfl (qt_index rfl rfl rfl ulE1 szE1 (fun w M => lenA_rd hr24) (by omega) (by omega)) ?_
        refine gd_v (.free rfl) rfl rfl (qt_load1 rfl rfl Try.underlying2 rfl (fun w M => mem_rd M hr24) (by omega) (by omega)) ?_
        refine gd_v (.free rfl) rfl rfl (qt_field (z := 0) (off := 4) rfl rfl Try.underlying27 rfl (by kernel_rfl) rfl) ?_
        refine gd_v (.free rfl) rfl rfl (qt_loadRB hb3 rfl rfl Try.underlying25 rfl rfl) ?_
        refine gd_v (.free rfl) rfl rfl (qt_move rfl rfl) ?_
        refine gd_v (.free rfl) rfl rfl (qt_index rfl rfl rfl ulE2 szE2 (fun w M => lenA_rd2 hR3.l4) (by omega) (by omega)) ?_
        refine gd_load2 (.free rfl) rfl rfl rfl rfl Try.underlying24 rfl hR3.l4 (by omega) (by omega) ?_
        intro ra25 rc25 hr25
        refine gd_v (.free rfl) rfl rfl (qt_field (z := 0) (off := 4) rfl rfl Try.underlying27 rfl (by kernel_rfl) rfl) ?_
        refine gd_v (.free rfl) rfl rfl (qt_loadRB hb3 rfl rfl Try.underlying25 rfl rfl) ?_
        refine gd_v (.free rfl) rfl rfl (qt_move rfl rfl) ?_
        refine gd_v (.free rfl) rfl rfl (qt_index rfl rfl rfl ulE2 szE2 (fun w M => lenA_rd2 hR3.l4) (by omega) (by omega)) ?_
        refine gd_load2 (.free rfl) rfl rfl rfl rfl Try.underlying24 rfl hR3.l4 (by omega) (by omega) ?_
        intro ra26 rc26 hr26
        refine gd_v (.free rfl) rfl rfl (qt_move rfl rfl) ?_
        refine gd_v (.free rfl) rfl rfl (qt_index rfl rfl rfl ulE1 szE1 (fun w M => lenA_rd hr26) (by omega) (by omega)) ?_
        refine gd_v (.free rfl) rfl rfl (qt_load1 rfl rfl Try.underlying2 rfl (fun w M => mem_rd M hr26) (by omega) (by omega)) ?_
        refine gd_v (.free rfl) rfl rfl (qt_index rfl rfl rfl ulE1 szE1 (fun w M => lenA_rd hr25) (by omega) (by omega)) ?_
        refine gd_v (.free rfl) rfl rfl (qt_load1 rfl rfl Try.underlying2 rfl (fun w M => mem_rd M hr25) (by omega) (by omega)) ?_
        refine gd_v (.free rfl) rfl rfl (qt_neq_t rfl rfl rfl b3) ?_
        refine gd_v (.free rfl) rfl rfl (qt_assign rfl rfl) ?_
        refine gd_nil ?_
        refine gk_then (hK22 _ _ ?_)
        refine gc_ret ?_
        refine gk_then_ret ?_
        refine ret_1 rfl rfl  (fun w M => ?_)
        exact ⟨rfl, M1.1.trans (M.1.mono M1.1.size)⟩
      · try simp only [decide_eq_true_eq, decide_eq_false_iff_not, Bool.not_eq_true', Bool.not_eq_false', Bool.not_eq_eq_eq_not, Bool.not_true, Bool.not_false, ne_eq, Decidable.not_not, Classical.not_not] at hc2
        refine gc_skip ?_
        refine gk_then (hK20 _ _ ?_)
        refine gc_seqR fun K27 hK27 => ?_
        refine gc_region ?_
        refine g_v (.free rfl) rfl rfl (qt_assign rfl rfl) ?_
        refine g_nil ?_
        refine gk_then (hK27 _ _ ?_)
        refine gc_ret ?_
        refine ret_1 rfl rfl  (fun w M => ?_)
        exact ⟨rfl, M1.1.trans (M.1.mono M1.1.size)⟩
end Go.Proofs.Ytpfcfhjpgngneac
