
/- The law of pullbacks and pushouts on drawn codes: its walk. -/
import Derived.Test.YtfnneogadciimabDrawX
import Derived.Test.YtfnneogadciimabEql
import Derived.Test.YtfnneogadciimabPull
import Derived.Test.YtfnneogadciimabPush
import Derived.Test.YtfnneogadciimabFibre
import Derived.Test.YtfnneogadciimabRul7
import Derived.Test.YtfnneogadciimabClo
set_option linter.unusedSimpArgs false
set_option linter.unusedVariables false
set_option linter.unusedSectionVars false
namespace Go.Proofs.Ytfnneogadciimab
open Go.RowKit


section
variable {w0 : World} {is : List Itm} {ops : Array Oper} {Q : Exit → Act → World → Prop} {o : Oper} {rest : List Oper} {N : Frm} {e : Env} {v : Value} {d : Nat} {K : Act → World → Prop} {f : FuncId} {fn : Func} {ags : Array Operand} {ts : Array TypeId} {vs : List Value}
theorem go_callRI {xs : List (List Int)} {c : Int} (hd : o.dst = some d) (hN : Nat.blt d N = true) (hop : o.op = .call { callee := .value (.func f), args := ags, argTypes := ts }) (hfn : Try.prog.funcs[f]? = some fn) (hb : fn.body.isNone = false) (hn : (fn.name == "runtime.NumGoroutine") = false)
    (hargs : evoL e ags.toList = some vs) (hc : ∀ w, Mem w0 w is → Calls Try.prog f vs.toArray w (RetRI w xs c)) (hk : ∀ a cap us, GK w0 (is ++ [own2U (.slice a xs.length cap) us xs]) N K ((d, .tuple #[.slice a xs.length cap, .int .i64 c]) :: e)) : GO w0 is N o e Q K := by
  intro w a M F
  refine go_call hd hN F hop hfn hb hn hargs (hc w M) fun e' w' hR => ?_
  obtain ⟨v, rfl, hs, hbl⟩ := hR
  obtain ⟨va, vc, rfl⟩ := rd2_form (sl2_rd hs)
  obtain ⟨us, hu⟩ := own2_of hs
  exact ⟨_, rfl, fun a F => hk va vc us w' a (mem_new M hbl hu) F⟩
theorem qt_addN {x y : Operand} {t u : TypeId} (a : Nat) {b : Nat} (hop : o.op = .binOp .add t x y u) (hx : evo e x = some (.int .i64 (a : Int))) (hy : evo e y = some (.int .i64 (b : Int))) (h : a + b ≤ 9223372036854775807) : QV w0 is o e (.int .i64 ((a + b : Nat) : Int)) := by
  have := qt_add (w0 := w0) (is := is) hop hx hy ⟨by omega, by omega⟩
  rwa [show ((a : Int) + b) = ((a + b : Nat) : Int) from by omega] at this
def RetTwo (W : World) (e : Ending) (w' : World) : Prop := ∃ (n : Int) (xs ys : List Int) (y z : Value), e = .returned (.tuple #[.int .i64 n, y, z]) ∧ Sl w' W.heap.size y xs ∧ xs.length ≤ 301 ∧ Sl w' W.heap.size z ys ∧ ys.length ≤ 301 ∧ CountP n ∧ Below W.heap.size W w'
def RetFour (W : World) (e : Ending) (w' : World) : Prop := ∃ (n k : Int) (xs ys : List Int) (y z : Value), e = .returned (.tuple #[.int .i64 n, y, .int .i64 k, z]) ∧ Sl w' W.heap.size y xs ∧ xs.length ≤ 301 ∧ Sl w' W.heap.size z ys ∧ ys.length ≤ 301 ∧ CountP n ∧ CountP k ∧ Below W.heap.size W w'
theorem go_callFour (hd : o.dst = some d) (hN : Nat.blt d N = true) (hop : o.op = .call { callee := .value (.func f), args := ags, argTypes := ts }) (hfn : Try.prog.funcs[f]? = some fn) (hb : fn.body.isNone = false) (hn : (fn.name == "runtime.NumGoroutine") = false)
    (hargs : evoL e ags.toList = some vs) (hc : ∀ w, Mem w0 w is → Calls Try.prog f vs.toArray w (RetFour w))
    (hk : ∀ (n k : Int) (xs ys : List Int) (a : Option Addr) (i : Nat) (b : Option Addr) (j : Nat), xs.length ≤ 301 → ys.length ≤ 301 → CountP n → CountP k → GK w0 (is ++ [twoI (.slice a xs.length i) (.slice b ys.length j) xs ys]) N K ((d, .tuple #[.int .i64 n, .slice a xs.length i, .int .i64 k, .slice b ys.length j]) :: e)) : GO w0 is N o e Q K := by
  intro w a M F
  refine go_call hd hN F hop hfn hb hn hargs (hc w M) fun e' w' hR => ?_
  obtain ⟨n, k, xs, ys, y, z, rfl, h1, l1, h2, l2, hcn, hck, hbl⟩ := hR
  obtain ⟨ya, yc, rfl⟩ := rd_form h1.rd
  obtain ⟨za, zc, rfl⟩ := rd_form h2.rd
  exact ⟨_, rfl, fun a F => hk n k xs ys ya yc za zc l1 l2 hcn hck w' a (mem_new M hbl ⟨own1_of h1, own1_of h2⟩) F⟩
end

set_option maxHeartbeats 1000000 in
set_option maxRecDepth 100000 in
theorem drawPull_any (w : World) (ca : Option Addr) (clen ccap : Nat) (h : InB w (.slice ca clen ccap)) :
    Calls Try.prog 48 #[.slice ca clen ccap] w (RetTwo w) := by
  go_enter Try.func48, Try.ntmps48
  refine gc_enter (N := 30) rfl (look_cons (k := 0) rfl (look_nil _)) ?_
  refine gc_seq fun K1 hK1 => ?_
  refine gc_region ?_
  refine g_v (.free rfl) rfl rfl (qt_assign rfl rfl) ?_
  refine g_v (.free rfl) rfl rfl (qt_assign rfl rfl) ?_
  refine g_v (.free rfl) rfl rfl (qt_assign rfl rfl) ?_
  refine g_nil ?_
  refine gk_then (hK1 _ _ ?_)
  refine gc_seq fun K2 hK2 => ?_
  refine gc_region ?_
  refine g_v (.free rfl) rfl rfl (qt_move rfl rfl) ?_
  refine g_op (.free rfl) fun K4 hK4 => ?_
  refine go_srcFrom rfl rfl rfl Try.func104 rfl (by decide) rfl h ?_
  intro g
  refine hK4 _ _ ?_
  refine g_v (.free rfl) rfl rfl (qt_assign rfl rfl) ?_
  refine g_nil ?_
  refine gk_then (hK2 _ _ ?_)
  refine gc_seq fun K5 hK5 => ?_
  refine gc_region ?_
  refine g_v (.free rfl) rfl rfl (qt_move rfl rfl) ?_
  refine g_op (.free rfl) fun K7 hK7 => ?_
  refine go_srcCount (n := 0) rfl rfl rfl Try.func105 rfl (by decide) rfl h rfl ?_
  intro n6 hcn6
  refine hK7 _ _ ?_
  refine g_v (.free rfl) rfl rfl (qt_assign rfl rfl) ?_
  refine g_nil ?_
  refine gk_then (hK5 _ _ ?_)
  refine gc_seq fun K8 hK8 => ?_
  refine gc_seq fun K9 hK9 => ?_
  refine gc_region ?_
  refine g_v (.free rfl) rfl rfl (qt_move rfl rfl) ?_
  refine g_op (.free rfl) fun K11 hK11 => ?_
  refine go_srcNext (n := 0) rfl rfl rfl Try.func106 rfl (by decide) rfl h rfl (by omega) ?_
  intro r10 hs10
  refine hK11 _ _ ?_
  refine g_v (.free rfl) rfl rfl (qt_eql rfl rfl rfl) ?_
  refine g_nil ?_
  refine gk_then (hK9 _ _ ?_)
  refine gc_cond rfl (fun hc0 => ?_) (fun hc0 => ?_)
  · try simp only [decide_eq_true_eq, decide_eq_false_iff_not, Bool.not_eq_true', Bool.not_eq_false', Bool.not_eq_eq_eq_not, Bool.not_true, Bool.not_false, ne_eq, Decidable.not_not, Classical.not_not] at hc0
    refine gc_seq fun K12 hK12 => ?_
    try simp only [List.nil_append, List.cons_append, List.append_assoc, List.set_cons_succ, List.set_cons_zero]
    refine ga_start _ (fun w M => M) ?_
    refine ga_v 1 rfl (by kernel_rfl) (by kernel_rfl) (by kernel_rfl) (.free rfl) rfl rfl (qt_move rfl rfl) (fun _ _ _ h => h) ?_
    refine ga_two 0 2 (by kernel_rfl) rfl rfl (.free rfl) (.free rfl) (fun K13 hK13 => ?_) (fun K13 hK13 => ?_)
    · refine go_make1 rfl rfl rfl Try.underlying22 rfl rfl (by decide) ?_
      intro B14
      refine hK13 _ _ (fun w M => (mem_take 1 M :)) ?_
      refine ga_op 2 (by kernel_rfl) rfl (.free rfl) fun K17 hK17 => ?_
      refine go_srcNext (n := 0) rfl rfl rfl Try.func106 rfl (by decide) rfl h rfl (by omega) ?_
      intro r16 hs16
      refine hK17 _ _ (fun w M => (mem_take 1 M :)) ?_
      refine ga_v 3 rfl (by kernel_rfl) (by kernel_rfl) (by kernel_rfl) (.free rfl) rfl rfl (qt_addN 15 rfl rfl rfl (by omega)) (fun _ _ _ h => h) ?_
      refine ga_v 5 rfl (by kernel_rfl) (by kernel_rfl) (by kernel_rfl) (.free rfl) rfl rfl (qt_assign rfl rfl) (fun _ _ _ h => h) ?_
      refine ga_v 6 rfl (by kernel_rfl) (by kernel_rfl) (by kernel_rfl) (.free rfl) rfl rfl (qt_assign rfl rfl) (fun _ _ _ h => h) ?_
      refine ga_op 4 (by kernel_rfl) rfl (.free rfl) fun K19 hK19 => ?_
      refine go_make1 rfl rfl rfl Try.underlying22 rfl rfl (by omega) ?_
      intro B18
      refine hK19 _ _ (fun w M => (mem_take 1 M :)) ?_
      refine ga_v 7 rfl (by kernel_rfl) (by kernel_rfl) (by kernel_rfl) (.free rfl) rfl rfl (qt_assign rfl rfl) (fun _ _ _ h => h) ?_
      refine ga_done (by kernel_rfl) ?_
      refine gk_then (hK12 _ _ ?_)
      refine gc_ret ?_
      refine gk_then_ret ?_
      refine ret_3 rfl rfl rfl rfl  (fun w M => ?_)
      exact ⟨1, _, _, _, _, rfl, mem_own1 (n := 1) M rfl, by simp, mem_own1 (n := 2) M rfl, by simp; omega, ⟨by decide, by decide⟩, M.1⟩
    · refine go_srcNext (n := 0) rfl rfl rfl Try.func106 rfl (by decide) rfl h rfl (by omega) ?_
      intro r20 hs20
      refine hK13 _ _ (fun w M => (mem_take 1 M :)) ?_
      refine ga_v 3 rfl (by kernel_rfl) (by kernel_rfl) (by kernel_rfl) (.free rfl) rfl rfl (qt_addN 15 rfl rfl rfl (by omega)) (fun _ _ _ h => h) ?_
      refine ga_v 5 rfl (by kernel_rfl) (by kernel_rfl) (by kernel_rfl) (.free rfl) rfl rfl (qt_assign rfl rfl) (fun _ _ _ h => h) ?_
      refine ga_two 0 4 (by kernel_rfl) rfl rfl (.free rfl) (.free rfl) (fun K22 hK22 => ?_) (fun K22 hK22 => ?_)
      · refine go_make1 rfl rfl rfl Try.underlying22 rfl rfl (by decide) ?_
        intro B23
        refine hK22 _ _ (fun w M => (mem_take 1 M :)) ?_
        refine ga_v 6 rfl (by kernel_rfl) (by kernel_rfl) (by kernel_rfl) (.free rfl) rfl rfl (qt_assign rfl rfl) (fun _ _ _ h => h) ?_
        refine ga_op 4 (by kernel_rfl) rfl (.free rfl) fun K26 hK26 => ?_
        refine go_make1 rfl rfl rfl Try.underlying22 rfl rfl (by omega) ?_
        intro B25
        refine hK26 _ _ (fun w M => (mem_take 1 M :)) ?_
        refine ga_v 7 rfl (by kernel_rfl) (by kernel_rfl) (by kernel_rfl) (.free rfl) rfl rfl (qt_assign rfl rfl) (fun _ _ _ h => h) ?_
        refine ga_done (by kernel_rfl) ?_
        refine gk_then (hK12 _ _ ?_)
        refine gc_ret ?_
        refine gk_then_ret ?_
        refine ret_3 rfl rfl rfl rfl  (fun w M => ?_)
        exact ⟨1, _, _, _, _, rfl, mem_own1 (n := 1) M rfl, by simp, mem_own1 (n := 2) M rfl, by simp; omega, ⟨by decide, by decide⟩, M.1⟩
      · refine go_make1 rfl rfl rfl Try.underlying22 rfl rfl (by omega) ?_
        intro B27
        refine hK22 _ _ (fun w M => (mem_take 1 M :)) ?_
        refine ga_op 0 (by kernel_rfl) rfl (.free rfl) fun K30 hK30 => ?_
        refine go_make1 rfl rfl rfl Try.underlying22 rfl rfl (by decide) ?_
        intro B29
        refine hK30 _ _ (fun w M => (mem_take 1 M :)) ?_
        refine ga_v 6 rfl (by kernel_rfl) (by kernel_rfl) (by kernel_rfl) (.free rfl) rfl rfl (qt_assign rfl rfl) (fun _ _ _ h => h) ?_
        refine ga_v 7 rfl (by kernel_rfl) (by kernel_rfl) (by kernel_rfl) (.free rfl) rfl rfl (qt_assign rfl rfl) (fun _ _ _ h => h) ?_
        refine ga_done (by kernel_rfl) ?_
        refine gk_then (hK12 _ _ ?_)
        refine gc_ret ?_
        refine gk_then_ret ?_
        refine ret_3 rfl rfl rfl rfl  (fun w M => ?_)
        exact ⟨1, _, _, _, _, rfl, mem_own1 (n := 2) M rfl, by simp, mem_own1 (n := 1) M rfl, by simp; omega, ⟨by decide, by decide⟩, M.1⟩
  · try simp only [decide_eq_true_eq, decide_eq_false_iff_not, Bool.not_eq_true', Bool.not_eq_false', Bool.not_eq_eq_eq_not, Bool.not_true, Bool.not_false, ne_eq, Decidable.not_not, Classical.not_not] at hc0
    refine gc_skip ?_
    refine gk_then (hK8 _ _ ?_)
    refine gc_seq fun K31 hK31 => ?_
    refine gc_region ?_
    refine g_v (.free rfl) rfl rfl (qt_move rfl rfl) ?_
    refine g_v (.free rfl) rfl rfl (qt_move rfl rfl) ?_
    refine g_v (.free rfl) rfl rfl (qt_move rfl rfl) ?_
    refine g_op (.free rfl) fun K33 hK33 => ?_
    refine go_srcNext (n := 0) rfl rfl rfl Try.func106 rfl (by decide) rfl h rfl (by omega) ?_
    intro r32 hs32
    refine hK33 _ _ ?_
    refine g_v (.free rfl) rfl rfl (qt_move rfl rfl) ?_
    refine g_op (.free rfl) fun K35 hK35 => ?_
    refine go_srcMaps (n := 0) rfl rfl rfl Try.func107 rfl (by decide) rfl h rfl (by first | exact hcn6.2) ?_
    intro xs34 xa34 xk34 hl34
    refine hK35 _ _ ?_
    refine g_v (.free rfl) rfl rfl (qt_move rfl rfl) ?_
    refine g_v (.free rfl) rfl rfl (qt_move rfl rfl) ?_
    refine g_op (.free rfl) fun K37 hK37 => ?_
    refine go_srcNext (n := 0) rfl rfl rfl Try.func106 rfl (by decide) rfl h rfl (by omega) ?_
    intro r36 hs36
    refine hK37 _ _ ?_
    refine g_v (.free rfl) rfl rfl (qt_move rfl rfl) ?_
    refine g_op (.free rfl) fun K39 hK39 => ?_
    refine go_srcMaps (n := 0) rfl rfl rfl Try.func107 rfl (by decide) rfl h rfl (by first | exact hcn6.2) ?_
    intro xs38 xa38 xk38 hl38
    refine hK39 _ _ ?_
    refine g_v (.free rfl) rfl rfl (qt_assign rfl rfl) ?_
    refine g_v (.free rfl) rfl rfl (qt_assign rfl rfl) ?_
    refine g_v (.free rfl) rfl rfl (qt_assign rfl rfl) ?_
    refine g_nil ?_
    refine gk_then (hK31 _ _ ?_)
    refine gc_ret ?_
    refine ret_3 rfl rfl rfl rfl  (fun w M => ?_)
    exact ⟨_, _, _, _, _, rfl, mem_own1 (n := 1) M rfl, by assumption, mem_own1 (n := 2) M rfl, by assumption, by assumption, M.1⟩

set_option maxHeartbeats 1000000 in
set_option maxRecDepth 100000 in
theorem drawPush_any (w : World) (ca : Option Addr) (clen ccap : Nat) (h : InB w (.slice ca clen ccap)) :
    Calls Try.prog 53 #[.slice ca clen ccap] w (RetFour w) := by
  go_enter Try.func53, Try.ntmps53
  refine gc_enter (N := 28) rfl (look_cons (k := 0) rfl (look_nil _)) ?_
  refine gc_seq fun K1 hK1 => ?_
  refine gc_region ?_
  refine g_v (.free rfl) rfl rfl (qt_assign rfl rfl) ?_
  refine g_v (.free rfl) rfl rfl (qt_assign rfl rfl) ?_
  refine g_v (.free rfl) rfl rfl (qt_assign rfl rfl) ?_
  refine g_v (.free rfl) rfl rfl (qt_assign rfl rfl) ?_
  refine g_nil ?_
  refine gk_then (hK1 _ _ ?_)
  refine gc_seq fun K2 hK2 => ?_
  refine gc_region ?_
  refine g_v (.free rfl) rfl rfl (qt_move rfl rfl) ?_
  refine g_op (.free rfl) fun K4 hK4 => ?_
  refine go_srcFrom rfl rfl rfl Try.func104 rfl (by decide) rfl h ?_
  intro g
  refine hK4 _ _ ?_
  refine g_v (.free rfl) rfl rfl (qt_assign rfl rfl) ?_
  refine g_nil ?_
  refine gk_then (hK2 _ _ ?_)
  refine gc_seq fun K5 hK5 => ?_
  refine gc_region ?_
  refine g_v (.free rfl) rfl rfl (qt_move rfl rfl) ?_
  refine g_op (.free rfl) fun K7 hK7 => ?_
  refine go_srcCount (n := 0) rfl rfl rfl Try.func105 rfl (by decide) rfl h rfl ?_
  intro n6 hcn6
  refine hK7 _ _ ?_
  refine g_v (.free rfl) rfl rfl (qt_move rfl rfl) ?_
  refine g_op (.free rfl) fun K9 hK9 => ?_
  refine go_srcCount (n := 0) rfl rfl rfl Try.func105 rfl (by decide) rfl h rfl ?_
  intro n8 hcn8
  refine hK9 _ _ ?_
  refine g_v (.free rfl) rfl rfl (qt_move rfl rfl) ?_
  refine g_op (.free rfl) fun K11 hK11 => ?_
  refine go_srcNext (n := 0) rfl rfl rfl Try.func106 rfl (by decide) rfl h rfl (by omega) ?_
  intro r10 hs10
  refine hK11 _ _ ?_
  refine g_v (.free rfl) rfl rfl (qt_assign rfl rfl) ?_
  refine g_v (.free rfl) rfl rfl (qt_assign rfl rfl) ?_
  refine g_v (.free rfl) rfl rfl (qt_assign rfl rfl) ?_
  refine g_nil ?_
  refine gk_then (hK5 _ _ ?_)
  refine gc_seq fun K12 hK12 => ?_
  refine gc_region ?_
  refine g_v (.free rfl) rfl rfl (qt_move rfl rfl) ?_
  refine g_v (.free rfl) rfl rfl (qt_move rfl rfl) ?_
  refine g_v (.free rfl) rfl rfl (qt_move rfl rfl) ?_
  refine g_v (.free rfl) rfl rfl (qt_move rfl rfl) ?_
  refine g_op (.free rfl) fun K14 hK14 => ?_
  refine go_srcMaps (n := 0) rfl rfl rfl Try.func107 rfl (by decide) rfl h rfl (by first | exact hcn6.2 | exact hcn8.2) ?_
  intro xs13 xa13 xk13 hl13
  refine hK14 _ _ ?_
  refine g_v (.free rfl) rfl rfl (qt_move rfl rfl) ?_
  refine g_v (.free rfl) rfl rfl (qt_move rfl rfl) ?_
  refine g_v (.free rfl) rfl rfl (qt_move rfl rfl) ?_
  refine g_v (.free rfl) rfl rfl (qt_move rfl rfl) ?_
  refine g_op (.free rfl) fun K16 hK16 => ?_
  refine go_srcMaps (n := 0) rfl rfl rfl Try.func107 rfl (by decide) rfl h rfl (by first | exact hcn6.2 | exact hcn8.2) ?_
  intro xs15 xa15 xk15 hl15
  refine hK16 _ _ ?_
  refine g_v (.free rfl) rfl rfl (qt_assign rfl rfl) ?_
  refine g_v (.free rfl) rfl rfl (qt_assign rfl rfl) ?_
  refine g_v (.free rfl) rfl rfl (qt_assign rfl rfl) ?_
  refine g_v (.free rfl) rfl rfl (qt_assign rfl rfl) ?_
  refine g_nil ?_
  refine gk_then (hK12 _ _ ?_)
  refine gc_ret ?_
  refine ret_4 rfl rfl rfl rfl rfl  (fun w M => ?_)
  exact ⟨_, _, _, _, _, _, rfl, mem_own1 (n := 1) M rfl, by assumption, mem_own1 (n := 2) M rfl, by assumption, by assumption, by assumption, M.1⟩

set_option maxHeartbeats 1000000 in
set_option maxRecDepth 100000 in
theorem rows_refl_any (w : World) (v u : Value) (rs : List (List Int)) (hv : Rd2 w v rs) (hu : Rd2 w u rs) :
    Calls Try.prog 51 #[v, u] w (RetB w true) := by
  obtain ⟨va, vc, rfl⟩ := rd2_form hv
  obtain ⟨ua, uc, rfl⟩ := rd2_form hu
  have hxl := rd2_len hv
  go_enter Try.func51, Try.ntmps51
  refine gc_enter (N := 27) rfl (look_cons (k := 0) rfl (look_cons (k := 1) rfl (look_nil _))) ?_
  refine gc_seq fun K1 hK1 => ?_
  refine gc_region ?_
  refine g_v (.free rfl) rfl rfl (qt_assign rfl rfl) ?_
  refine g_nil ?_
  refine gk_then (hK1 _ _ ?_)
  refine gc_seq fun K2 hK2 => ?_
  refine gc_seq fun K3 hK3 => ?_
  refine gc_region ?_
  refine g_v (.free rfl) rfl rfl (qt_move rfl rfl) ?_
  refine g_v (.free rfl) rfl rfl (qt_len rfl rfl ulE2 (fun w M => lenV_rd2 hv)) ?_
  refine g_v (.free rfl) rfl rfl (qt_move rfl rfl) ?_
  refine g_v (.free rfl) rfl rfl (qt_len rfl rfl ulE2 (fun w M => lenV_rd2 hu)) ?_
  refine g_v (.free rfl) rfl rfl (qt_neq_f rfl rfl rfl (fun h => h rfl)) ?_
  refine g_nil ?_
  refine gk_then (hK3 _ _ ?_)
  refine gc_cond_f rfl ?_
  refine gc_skip ?_
  refine gk_then (hK2 _ _ ?_)
  refine gc_seq fun K4 hK4 => ?_
  refine gc_seq fun K5 hK5 => ?_
  refine gc_region ?_
  refine g_v (.free rfl) rfl rfl (qt_assign rfl rfl) ?_
  refine g_nil ?_
  refine gk_then (hK5 _ _ ?_)
  refine gc_block ?_
  try simp only [List.nil_append, List.cons_append, List.append_assoc, List.set_cons_succ, List.set_cons_zero]
  refine gc_loop ([(0, _), (1, _), (10, _)] : Env) (fun s : Nat => (fun (k : Nat) => ([(5, .int .i64 (k : Int))] : Env)) s) (fun s : Nat => (fun (k : Nat) => ([] : List (Nat × Itm))) s) (fun s : Nat => (fun (k : Nat) => k ≤ rs.length) s) (fun s : Nat => (fun (k : Nat) => rs.length - k) s) (0) (sub_cons rfl (sub_cons rfl (sub_cons rfl (sub_cons rfl sub_nil)))) rfl (Nat.zero_le _) ?_
  rintro k hinv KL6 hKL6
  simp only [updL, List.foldl_cons, List.foldl_nil, List.set_cons_succ, List.set_cons_zero, List.cons_append, List.nil_append] at hinv hKL6 ⊢
  have hk := hinv
  refine gc_seq fun K7 hK7 => ?_
  refine gc_seq fun K8 hK8 => ?_
  refine gc_region ?_
  refine g_v (.free rfl) rfl rfl (qt_move rfl rfl) ?_
  refine g_v (.free rfl) rfl rfl (qt_move rfl rfl) ?_
  refine g_v (.free rfl) rfl rfl (qt_len rfl rfl ulE2 (fun w M => lenV_rd2 hv)) ?_
  refine g_v (.free rfl) rfl rfl (qt_lss rfl rfl rfl) ?_
  refine g_nil ?_
  refine gk_then (hK8 _ _ ?_)
  refine gc_cond rfl (fun hc0 => ?_) (fun hc0 => ?_)
  · try simp only [decide_eq_true_eq, decide_eq_false_iff_not, Bool.not_eq_true', Bool.not_eq_false', Bool.not_eq_eq_eq_not, Bool.not_true, Bool.not_false, ne_eq, Decidable.not_not, Classical.not_not] at hc0
    refine gc_skip ?_
    refine gk_then (hK7 _ _ ?_)
    refine gc_seq fun K9 hK9 => ?_
    refine gc_block ?_
    refine gc_seq fun K10 hK10 => ?_
    refine gc_draw (by kernel_rfl) ?_
    refine gd_v (.free rfl) rfl rfl (qt_move rfl rfl) ?_
    refine gd_v (.free rfl) rfl rfl (qt_move rfl rfl) ?_
    refine gd_v (.free rfl) rfl rfl (qt_index rfl rfl rfl ulE2 szE2 (fun w M => lenA_rd2 hv) (by omega) (by omega)) ?_
    refine gd_load2 (.free rfl) rfl rfl rfl rfl Try.underlying22 rfl hv (by omega) (by omega) ?_
    intro ra11 rc11 hr11
    refine gd_v (.free rfl) rfl rfl (qt_move rfl rfl) ?_
    refine gd_v (.free rfl) rfl rfl (qt_move rfl rfl) ?_
    refine gd_v (.free rfl) rfl rfl (qt_index rfl rfl rfl ulE2 szE2 (fun w M => lenA_rd2 hu) (by omega) (by omega)) ?_
    refine gd_load2 (.free rfl) rfl rfl rfl rfl Try.underlying22 rfl hu (by omega) (by omega) ?_
    intro ra12 rc12 hr12
    refine gd_q (.free rfl) rfl rfl (qt_call rfl Try.func42 rfl (by decide) rfl (fun w M => like_refl_any w _ _ _ (mem_rd M hr11) (mem_rd M hr12))) ?_
    refine gd_v (.free rfl) rfl rfl (qt_not rfl rfl) ?_
    refine gd_nil ?_
    refine gk_then (hK10 _ _ ?_)
    refine gc_cond_f rfl ?_
    refine gc_skip ?_
    refine gk_block ?_
    refine gk_then (hK9 _ _ ?_)
    refine gc_region ?_
    refine g_v (.free rfl) rfl rfl (qt_move rfl rfl) ?_
    refine g_v (.free rfl) rfl rfl (qt_add rfl rfl rfl (by omega)) ?_
    refine g_v (.free rfl) rfl rfl (qt_assign rfl rfl) ?_
    refine g_nil ?_
    refine gk_then (gk_take 0 ?_)
    refine gk_sub ?hs_13 (hKL6 (k + 1) ?hi_13 ?hm_13)
    case hs_13 => exact (sub_cons rfl (sub_cons rfl (sub_cons rfl (sub_cons rfl sub_nil))))
    case hi_13 => omega
    case hm_13 => omega
  · try simp only [decide_eq_true_eq, decide_eq_false_iff_not, Bool.not_eq_true', Bool.not_eq_false', Bool.not_eq_eq_eq_not, Bool.not_true, Bool.not_false, ne_eq, Decidable.not_not, Classical.not_not] at hc0
    refine gc_exit ?_
    refine gk_then_exit ?_
    refine gk_then_exit ?_
    refine gk_block_hit ?_
    refine gk_then (hK4 _ _ ?_)
    refine gc_seq fun K14 hK14 => ?_
    refine gc_region ?_
    refine g_v (.free rfl) rfl rfl (qt_assign rfl rfl) ?_
    refine g_nil ?_
    refine gk_then (hK14 _ _ ?_)
    refine gc_ret ?_
    refine ret_1 rfl rfl  (fun w M => ?_)
    exact ⟨rfl, M.1⟩


/-! ### Fibres and pairs -/
/-- The pairs whose image lies below N, of the first m elements. -/
def totG (f g : List Int) (m : Nat) : Nat → Nat
  | 0 => 0
  | y + 1 => totG f g m y + (idxs (fibreP f (y : Int)) m).length * (idxs (fibreP g (y : Int)) g.length).length
theorem totG_zero (f g : List Int) : ∀ N, totG f g 0 N = 0
  | 0 => rfl
  | N + 1 => by
    have h : (idxs (fibreP f (N : Int)) 0).length = 0 := by simp [idxs]
    simp only [totG, totG_zero f g N, h, Nat.zero_mul]
theorem totG_step (f g : List Int) (m : Nat) : ∀ N, totG f g (m + 1) N = totG f g m N + if 0 ≤ f.getD m 0 ∧ f.getD m 0 < (N : Int) then (idxs (fibreP g (f.getD m 0)) g.length).length else 0
  | 0 => by simp only [totG]; rw [if_neg (by omega)]
  | N + 1 => by
    have ih := totG_step f g m N
    simp only [totG, ih]
    by_cases h : f.getD m 0 = (N : Int)
    · have h1 : fibreP f (N : Int) m = true := by simp only [fibreP, h, beq_self_eq_true]
      rw [idxs_yes h1, h, if_neg (by omega), if_pos (by omega), List.length_append]
      simp only [List.length_singleton, Nat.add_mul, Nat.one_mul]
      omega
    · have h1 : fibreP f (N : Int) m = false := by simp only [fibreP]; exact beq_eq_false_iff_ne.2 h
      rw [idxs_no h1]
      by_cases h2 : 0 ≤ f.getD m 0 ∧ f.getD m 0 < (N : Int)
      · rw [if_pos h2, if_pos (by omega)]; omega
      · rw [if_neg h2, if_neg (by omega)]; omega
theorem pRow_fib (f g : List Int) (i m : Nat) : (pRow f g i m).length = (idxs (fibreP g (f.getD i 0)) m).length := by
  unfold pRow idxs
  rw [List.length_map, List.length_map]
  congr 1
  refine List.filter_congr fun j _ => ?_
  show (f.getD i 0 == g.getD j 0) = (g.getD j 0 == f.getD i 0)
  exact BEq.comm
theorem tot_all {f g : List Int} {N : Nat} (h : AllP (N : Int) f) : ∀ k, k ≤ f.length → (pAll f g k).length = totG f g k N
  | 0, _ => by rw [totG_zero]; rfl
  | k + 1, hk => by
    have ih := tot_all (g := g) h k (by omega)
    have hx := h _ (mem_getD (xs := f) (k := k) (by omega))
    rw [pAll_succ, List.length_append, ih, totG_step, if_pos hx, pRow_fib]
theorem mul_small {a b : Nat} (ha : a ≤ 256) (hb : b ≤ 256) : 0 ≤ (a : Int) * b ∧ (a : Int) * b ≤ 65536 := by
  have h := Nat.mul_le_mul ha hb
  have e : ((a * b : Nat) : Int) = (a : Int) * b := Int.natCast_mul a b
  omega
theorem totG_le {f g : List Int} (hf : f.length ≤ 256) (hg : g.length ≤ 256) : ∀ N, totG f g f.length N ≤ 65536 * N
  | 0 => by simp [totG]
  | N + 1 => by
    have ih := totG_le hf hg N
    have h1 := idxs_len (fibreP f (N : Int)) f.length
    have h2 := idxs_len (fibreP g (N : Int)) g.length
    have h3 := Nat.mul_le_mul (Nat.le_trans h1 hf) (Nat.le_trans h2 hg)
    simp only [totG]
    omega
theorem totG_succ (f g : List Int) (N : Nat) : ((totG f g f.length N : Nat) : Int) + ((idxs (fibreP f (N : Int)) f.length).length : Int) * ((idxs (fibreP g (N : Int)) g.length).length : Int) = ((totG f g f.length (N + 1) : Nat) : Int) := by
  simp only [totG, Int.natCast_add, Int.natCast_mul]
theorem fib_eq {n : Int} {f : List Int} (h : MapP n f) {k : Nat} (hk : (k : Int) < n) : fFibreOf n f (k : Int) = (idxs (fibreP f (k : Int)) f.length, 0) := by
  unfold fFibreOf codeM
  rw [if_pos h.1, if_pos h, if_pos rfl, if_pos (by omega)]
theorem pull_facts {n r : Int} {f g : List Int} {pb : List (List Int)} (h : fPullbackOf n f g = (pb, r)) (hr : r = 0) : MapP n f ∧ MapP n g ∧ pb.length = totG f g f.length n.toNat := by
  unfold fPullbackOf at h
  by_cases h1 : SizeP n
  · rw [if_pos h1] at h
    by_cases h2 : MapP n f ∧ MapP n g
    · rw [if_pos h2] at h
      by_cases h3 : (pAll f g f.length).length ≤ 256
      · rw [if_pos h3] at h
        simp only [Prod.mk.injEq] at h
        obtain ⟨rfl, _⟩ := h
        have hn : ((n.toNat : Nat) : Int) = n := by have := h1.1; omega
        exact ⟨h2.1, h2.2, tot_all (N := n.toNat) (by rw [hn]; exact h2.1.2.2) f.length (Nat.le_refl _)⟩
      · rw [if_neg h3] at h; simp only [Prod.mk.injEq] at h; omega
    · rw [if_neg h2] at h; simp only [Prod.mk.injEq] at h; omega
  · rw [if_neg h1] at h; simp only [Prod.mk.injEq] at h; omega
/-! ### The pushout -/
def shT (b : List Int) (m : Int) (k : Nat) : List Int := (List.range k).map fun (j : Nat) => m + at0 b (j : Int)
theorem shT_succ (b : List Int) (m : Int) (k : Nat) : shT b m k ++ [m + at0 b (k : Int)] = shT b m (k + 1) := by simp [shT, List.range_succ]
theorem shT_len (b : List Int) (m : Int) (k : Nat) : (shT b m k).length = k := by simp [shT]
theorem at0_nat_getD (b : List Int) (m : Int) {j : Nat} (hj : j < b.length) : (shT b m b.length).getD j 0 = m + b.getD j 0 := by
  simp only [shT, List.getD_eq_getElem?_getD, List.getElem?_map, List.getElem?_range hj, Option.map_some, Option.getD_some, at0_nat]
theorem shT_all (b : List Int) {m : Int} (hm : 0 ≤ m) : shT b m b.length = shift m.toNat b := by
  refine list_eq_all (by simp [shT, shift]) fun j hj => ?_
  rw [shT_len] at hj
  rw [shift_getD hj, at0_nat_getD b m hj]
  omega
theorem push_facts {m k r : Int} {x z p : List Int} (h : fPushoutOf m x k z = (p, r)) (hr : r = 0) : MapP m x ∧ MapP k z ∧ m + k ≤ 256 ∧ fCoequalizerOf (m + k) x (shT z m z.length) = (p, 0) := by
  unfold fPushoutOf at h
  by_cases h1 : SizeP m ∧ SizeP k
  · rw [if_pos h1] at h
    by_cases h2 : MapP m x ∧ MapP k z ∧ x.length = z.length
    · rw [if_pos h2] at h
      by_cases h3 : m + k ≤ 256
      · rw [if_pos h3] at h
        simp only [Prod.mk.injEq] at h
        obtain ⟨rfl, _⟩ := h
        refine ⟨h2.1, h2.2.1, h3, ?_⟩
        have hm0 := h1.1.1
        have hk0 := h1.2.1
        have hS : SizeP (m + k) := ⟨by omega, h3⟩
        have hMx : MapP (m + k) x := ⟨hS, h2.1.2.1, fun y hy => by have := h2.1.2.2 y hy; omega⟩
        have hmn : ((m.toNat : Nat) : Int) = m := by omega
        have hkn : ((k.toNat : Nat) : Int) = k := by omega
        have hsz : shT z m z.length = shift m.toNat z := shT_all z hm0
        have hMz : MapP (m + k) (shift m.toNat z) := ⟨hS, by have := h2.2.1.2.1; simpa [shift] using this, by
          have := shift_all (n := m.toNat) (m := k.toNat) (g := z) (by rw [hkn]; exact h2.2.1.2.2)
          rwa [hmn, hkn] at this⟩
        have hl : x.length = (shift m.toNat z).length := by rw [h2.2.2]; simp [shift]
        have hc : codeTwo (m + k) x (shift m.toNat z) = 0 := by
          unfold codeTwo codeM
          rw [if_pos hS, if_pos hMx, if_pos rfl, if_pos ⟨hMz, hl⟩]
        rw [hsz]
        unfold fCoequalizerOf
        rw [if_pos hc]
      · rw [if_neg h3] at h; simp only [Prod.mk.injEq] at h; omega
    · rw [if_neg h2] at h; simp only [Prod.mk.injEq] at h; omega
  · rw [if_neg h1] at h; simp only [Prod.mk.injEq] at h; omega

set_option maxHeartbeats 8000000 in
set_option maxRecDepth 100000 in
theorem pbkWalk (w : World) (ca : Option Addr) (clen ccap : Nat) (h : InB w (.slice ca clen ccap)) (hcl : clen ≤ 9223372036854775807) :
    Calls Try.prog 11 #[.slice ca clen ccap] w (RetB w true) := by
  go_enter Try.func11, Try.ntmps11
  refine gc_enter (N := 163) rfl (look_cons (k := 0) rfl (look_nil _)) ?_
  refine gc_seq fun K1 hK1 => ?_
  refine gc_region ?_
  refine g_v (.free rfl) rfl rfl (qt_assign rfl rfl) ?_
  refine g_nil ?_
  refine gk_then (hK1 _ _ ?_)
  refine gc_seq fun K2 hK2 => ?_
  refine gc_seq fun K3 hK3 => ?_
  refine gc_region ?_
  refine g_v (.free rfl) rfl rfl (qt_move rfl rfl) ?_
  refine g_q (.free rfl) rfl rfl (qt_call rfl Try.func38 rfl (by decide) rfl (fun w M => bigN_any w _ _ _ (by first | assumption | omega))) ?_
  refine g_nil ?_
  refine gk_then (hK3 _ _ ?_)
  refine gc_cond rfl (fun hc0 => ?_) (fun hc0 => ?_)
  · try simp only [decide_eq_true_eq, decide_eq_false_iff_not, Bool.not_eq_true', Bool.not_eq_false', Bool.not_eq_eq_eq_not, Bool.not_true, Bool.not_false, ne_eq, Decidable.not_not, Classical.not_not] at hc0
    refine gc_seq fun K4 hK4 => ?_
    refine gc_region ?_
    refine g_v (.free rfl) rfl rfl (qt_assign rfl rfl) ?_
    refine g_nil ?_
    refine gk_then (hK4 _ _ ?_)
    refine gc_ret ?_
    refine gk_then_ret ?_
    refine ret_1 rfl rfl  (fun w M => ?_)
    exact ⟨rfl, M.1⟩
  · try simp only [decide_eq_true_eq, decide_eq_false_iff_not, Bool.not_eq_true', Bool.not_eq_false', Bool.not_eq_eq_eq_not, Bool.not_true, Bool.not_false, ne_eq, Decidable.not_not, Classical.not_not] at hc0
    refine gc_skip ?_
    refine gk_then (hK2 _ _ ?_)
    refine gc_seq fun K5 hK5 => ?_
    refine gc_region ?_
    refine g_v (.free rfl) rfl rfl (qt_move rfl rfl) ?_
    refine g_op (.free rfl) fun K7 hK7 => ?_
    refine go_callTwo rfl rfl rfl Try.func48 rfl (by decide) rfl (fun w M => drawPull_any w _ _ _ (inb_below M.1 h)) ?_
    intro n f g fa fk ga gk hlf hlg hcn
    refine hK7 _ _ ?_
    refine g_v (.free rfl) rfl rfl (qt_move rfl rfl) ?_
    refine g_v (.free rfl) rfl rfl (qt_extract rfl rfl rfl) ?_
    refine g_v (.free rfl) rfl rfl (qt_extract rfl rfl rfl) ?_
    refine g_v (.free rfl) rfl rfl (qt_extract rfl rfl rfl) ?_
    refine g_v (.free rfl) rfl rfl (qt_assign rfl rfl) ?_
    refine g_v (.free rfl) rfl rfl (qt_assign rfl rfl) ?_
    refine g_v (.free rfl) rfl rfl (qt_assign rfl rfl) ?_
    refine g_nil ?_
    refine gk_then (hK5 _ _ ?_)
    refine gc_seq fun K8 hK8 => ?_
    obtain ⟨pb, r1, hP⟩ : ∃ pb r1, fPullbackOf n f g = (pb, r1) := ⟨_, _, rfl⟩
    have hpf := pull_facts hP
    have HPi := fun (w : World) (v u : Value) (h1 : Rd w v f) (h2 : Rd w u g) => impl_PullbackOf w n v f u g h1 h2
    simp only [hP] at HPi
    have HPs := fun (w : World) (v u : Value) (h1 : Rd w v f) (h2 : Rd w u g) => spec_PullbackOf w n v f u g h1 h2
    simp only [hP] at HPs
    refine gc_region ?_
    refine g_v (.free rfl) rfl rfl (qt_move rfl rfl) ?_
    refine g_v (.free rfl) rfl rfl (qt_move rfl rfl) ?_
    refine g_v (.free rfl) rfl rfl (qt_move rfl rfl) ?_
    refine g_op (.free rfl) fun K10 hK10 => ?_
    refine go_callRI rfl rfl rfl Try.func49 rfl (by decide) rfl (fun w M => HPi w _ _ (two_rd1 (n := 0) M rfl) (two_rd2 (n := 0) M rfl)) ?_
    intro va9 vc9 us9
    refine hK10 _ _ ?_
    refine g_v (.free rfl) rfl rfl (qt_move rfl rfl) ?_
    refine g_v (.free rfl) rfl rfl (qt_extract rfl rfl rfl) ?_
    refine g_v (.free rfl) rfl rfl (qt_extract rfl rfl rfl) ?_
    refine g_v (.free rfl) rfl rfl (qt_assign rfl rfl) ?_
    refine g_v (.free rfl) rfl rfl (qt_assign rfl rfl) ?_
    refine g_nil ?_
    refine gk_then (hK8 _ _ ?_)
    refine gc_seq fun K11 hK11 => ?_
    refine gc_region ?_
    refine g_v (.free rfl) rfl rfl (qt_move rfl rfl) ?_
    refine g_v (.free rfl) rfl rfl (qt_move rfl rfl) ?_
    refine g_v (.free rfl) rfl rfl (qt_move rfl rfl) ?_
    refine g_op (.free rfl) fun K13 hK13 => ?_
    refine go_callRI rfl rfl rfl Try.func50 rfl (by decide) rfl (fun w M => HPs w _ _ (two_rd1 (n := 0) M rfl) (two_rd2 (n := 0) M rfl)) ?_
    intro va12 vc12 us12
    refine hK13 _ _ ?_
    refine g_v (.free rfl) rfl rfl (qt_move rfl rfl) ?_
    refine g_v (.free rfl) rfl rfl (qt_extract rfl rfl rfl) ?_
    refine g_v (.free rfl) rfl rfl (qt_extract rfl rfl rfl) ?_
    refine g_v (.free rfl) rfl rfl (qt_assign rfl rfl) ?_
    refine g_v (.free rfl) rfl rfl (qt_assign rfl rfl) ?_
    refine g_nil ?_
    refine gk_then (hK11 _ _ ?_)
    refine gc_seq fun K14 hK14 => ?_
    refine gc_seq fun K15 hK15 => ?_
    refine gc_region ?_
    refine g_v (.free rfl) rfl rfl (qt_move rfl rfl) ?_
    refine g_v (.free rfl) rfl rfl (qt_move rfl rfl) ?_
    refine g_v (.free rfl) rfl rfl (qt_neq_f rfl rfl rfl (fun h => h rfl)) ?_
    refine g_v (.free rfl) rfl rfl (qt_move rfl rfl) ?_
    refine g_v (.held _ _ _ rfl rfl rfl) rfl rfl (qt_move rfl rfl) ?_
    refine g_v (.held _ _ _ rfl rfl rfl) rfl rfl (qt_move rfl rfl) ?_
    refine g_q (.held _ _ _ rfl rfl rfl) rfl rfl (qt_call rfl Try.func51 rfl (by decide) rfl (fun w M => rows_refl_any w _ _ _ (mem_rdU (n := 1) M rfl) (mem_rdU (n := 2) M rfl))) ?_
    refine g_v (.held _ _ _ rfl rfl rfl) rfl rfl (qt_not rfl rfl) ?_
    refine g_v (.free rfl) rfl rfl (qt_pick_f rfl rfl rfl) ?_
    refine g_nil ?_
    refine gk_then (hK15 _ _ ?_)
    refine gc_cond_f rfl ?_
    refine gc_skip ?_
    refine gk_then (hK14 _ _ ?_)
    refine gc_seq fun K16 hK16 => ?_
    refine gc_seq fun K17 hK17 => ?_
    refine gc_region ?_
    refine g_v (.free rfl) rfl rfl (qt_move rfl rfl) ?_
    refine g_v (.free rfl) rfl rfl (qt_eql rfl rfl rfl) ?_
    refine g_nil ?_
    refine gk_then (hK17 _ _ ?_)
    refine gc_cond rfl (fun hc1 => ?_) (fun hc1 => ?_)
    · try simp only [decide_eq_true_eq, decide_eq_false_iff_not, Bool.not_eq_true', Bool.not_eq_false', Bool.not_eq_eq_eq_not, Bool.not_true, Bool.not_false, ne_eq, Decidable.not_not, Classical.not_not] at hc1
      refine gc_seq fun K18 hK18 => ?_
      obtain ⟨hMf, hMg, hpl⟩ := hpf (by omega)
      have hf256 := hMf.2.1; have hg256 := hMg.2.1; have hn0 := hMf.1.1; have hn1 := hMf.1.2
      refine gc_region ?_
      refine g_v (.free rfl) rfl rfl (qt_assign rfl rfl) ?_
      refine g_nil ?_
      refine gk_then (hK18 _ _ ?_)
      refine gc_seq fun K19 hK19 => ?_
      refine gc_seq fun K20 hK20 => ?_
      refine gc_region ?_
      refine g_v (.free rfl) rfl rfl (qt_assign rfl rfl) ?_
      refine g_nil ?_
      refine gk_then (hK20 _ _ ?_)
      refine gc_block ?_
      try simp only [List.nil_append, List.cons_append, List.append_assoc, List.set_cons_succ, List.set_cons_zero]
      refine gc_loop ([(0, _), (3, _), (4, _), (5, _), (6, _), (7, _), (8, _), (9, _), (29, _), (58, _), (60, _)] : Env) (fun s : Nat => (fun (k : Nat) => ([(10, .int .i64 ((totG f g f.length k : Nat) : Int)), (11, .int .i64 (k : Int))] : Env)) s) (fun s : Nat => (fun (k : Nat) => ([] : List (Nat × Itm))) s) (fun s : Nat => (fun (k : Nat) => k ≤ n.toNat) s) (fun s : Nat => (fun (k : Nat) => n.toNat - k) s) (0) (sub_cons rfl (sub_cons rfl (sub_cons rfl (sub_cons rfl (sub_cons rfl (sub_cons rfl (sub_cons rfl (sub_cons rfl (sub_cons rfl (sub_cons rfl (sub_cons rfl (sub_cons rfl (sub_cons rfl sub_nil))))))))))))) rfl (Nat.zero_le _) ?_
      rintro k hinv KL21 hKL21
      simp only [updL, List.foldl_cons, List.foldl_nil, List.set_cons_succ, List.set_cons_zero, List.cons_append, List.nil_append] at hinv hKL21 ⊢
      have hk := hinv
      refine gc_seq fun K22 hK22 => ?_
      refine gc_seq fun K23 hK23 => ?_
      refine gc_region ?_
      refine g_v (.free rfl) rfl rfl (qt_move rfl rfl) ?_
      refine g_v (.free rfl) rfl rfl (qt_move rfl rfl) ?_
      refine g_v (.free rfl) rfl rfl (qt_lss rfl rfl rfl) ?_
      refine g_nil ?_
      refine gk_then (hK23 _ _ ?_)
      refine gc_cond rfl (fun hc2 => ?_) (fun hc2 => ?_)
      · try simp only [decide_eq_true_eq, decide_eq_false_iff_not, Bool.not_eq_true', Bool.not_eq_false', Bool.not_eq_eq_eq_not, Bool.not_true, Bool.not_false, ne_eq, Decidable.not_not, Classical.not_not] at hc2
        refine gc_skip ?_
        refine gk_then (hK22 _ _ ?_)
        refine gc_seq fun K24 hK24 => ?_
        refine gc_block ?_
        refine gc_seq fun K25 hK25 => ?_
        have hkn : (k : Int) < n := by omega
        have HF1 := fun (w : World) (v : Value) (h1 : Rd w v f) => impl_FibreOf w n v f (k : Int) h1
        simp only [fib_eq hMf hkn] at HF1
        have HF2 := fun (w : World) (v : Value) (h1 : Rd w v g) => impl_FibreOf w n v g (k : Int) h1
        simp only [fib_eq hMg hkn] at HF2
        refine gc_region ?_
        refine g_v (.free rfl) rfl rfl (qt_move rfl rfl) ?_
        refine g_v (.free rfl) rfl rfl (qt_move rfl rfl) ?_
        refine g_v (.free rfl) rfl rfl (qt_move rfl rfl) ?_
        refine g_op (.free rfl) fun K27 hK27 => ?_
        refine go_callLI rfl rfl rfl Try.func52 rfl (by decide) rfl (fun w M => HF1 w _ (two_rd1 (n := 0) M rfl)) ?_
        intro va26 vc26
        refine hK27 _ _ ?_
        refine g_v (.free rfl) rfl rfl (qt_move rfl rfl) ?_
        refine g_v (.free rfl) rfl rfl (qt_extract rfl rfl rfl) ?_
        refine g_v (.free rfl) rfl rfl (qt_extract rfl rfl rfl) ?_
        refine g_v (.free rfl) rfl rfl (qt_assign rfl rfl) ?_
        refine g_v (.free rfl) rfl rfl (qt_assign rfl rfl) ?_
        refine g_nil ?_
        refine gk_then (hK25 _ _ ?_)
        refine gc_seq fun K28 hK28 => ?_
        refine gc_region ?_
        refine g_v (.free rfl) rfl rfl (qt_move rfl rfl) ?_
        refine g_v (.free rfl) rfl rfl (qt_move rfl rfl) ?_
        refine g_v (.free rfl) rfl rfl (qt_move rfl rfl) ?_
        refine g_op (.free rfl) fun K30 hK30 => ?_
        refine go_callLI rfl rfl rfl Try.func52 rfl (by decide) rfl (fun w M => HF2 w _ (two_rd2 (n := 0) M rfl)) ?_
        intro va29 vc29
        refine hK30 _ _ ?_
        refine g_v (.free rfl) rfl rfl (qt_move rfl rfl) ?_
        refine g_v (.free rfl) rfl rfl (qt_extract rfl rfl rfl) ?_
        refine g_v (.free rfl) rfl rfl (qt_extract rfl rfl rfl) ?_
        refine g_v (.free rfl) rfl rfl (qt_assign rfl rfl) ?_
        refine g_v (.free rfl) rfl rfl (qt_assign rfl rfl) ?_
        refine g_nil ?_
        refine gk_then (hK28 _ _ ?_)
        refine gc_seq fun K31 hK31 => ?_
        refine gc_seq fun K32 hK32 => ?_
        refine gc_region ?_
        refine g_v (.free rfl) rfl rfl (qt_move rfl rfl) ?_
        refine g_v (.free rfl) rfl rfl (qt_neq_f rfl rfl rfl (fun h => h rfl)) ?_
        refine g_v (.free rfl) rfl rfl (qt_move rfl rfl) ?_
        refine g_v (.held _ _ _ rfl rfl rfl) rfl rfl (qt_move rfl rfl) ?_
        refine g_v (.held _ _ _ rfl rfl rfl) rfl rfl (qt_neq_f rfl rfl rfl (fun h => h rfl)) ?_
        refine g_v (.free rfl) rfl rfl (qt_pick_f rfl rfl rfl) ?_
        refine g_nil ?_
        refine gk_then (hK32 _ _ ?_)
        refine gc_cond_f rfl ?_
        refine gc_skip ?_
        refine gk_then (hK31 _ _ ?_)
        have hi1 := idxs_len (fibreP f (k : Int)) f.length; have hi2 := idxs_len (fibreP g (k : Int)) g.length
        have hms := mul_small (Nat.le_trans hi1 hf256) (Nat.le_trans hi2 hg256)
        have htl := totG_le hf256 hg256 k
        refine gc_region ?_
        refine g_v (.free rfl) rfl rfl (qt_move rfl rfl) ?_
        refine g_v (.free rfl) rfl rfl (qt_move rfl rfl) ?_
        refine g_v (.free rfl) rfl rfl (qt_len rfl rfl ulE1 (fun w M => lenV_own1 (n := 3) rfl M)) ?_
        refine g_v (.free rfl) rfl rfl (qt_move rfl rfl) ?_
        refine g_v (.free rfl) rfl rfl (qt_len rfl rfl ulE1 (fun w M => lenV_own1 (n := 4) rfl M)) ?_
        refine g_v (.free rfl) rfl rfl (qt_mul rfl rfl rfl (by omega)) ?_
        refine g_v (.free rfl) rfl rfl (qt_add rfl rfl rfl (by omega)) ?_
        refine g_v (.free rfl) rfl rfl (qt_assign rfl rfl) ?_
        refine g_nil ?_
        refine gk_block ?_
        refine gk_then (hK24 _ _ ?_)
        refine gc_region ?_
        refine g_v (.free rfl) rfl rfl (qt_move rfl rfl) ?_
        refine g_v (.free rfl) rfl rfl (qt_add rfl rfl rfl (by omega)) ?_
        refine g_v (.free rfl) rfl rfl (qt_assign rfl rfl) ?_
        refine g_nil ?_
        rw [totG_succ]
        refine gk_then (gk_take 3 ?_)
        refine gk_sub ?hs_33 (hKL21 (k + 1) ?hi_33 ?hm_33)
        case hs_33 => exact (sub_cons rfl (sub_cons rfl (sub_cons rfl (sub_cons rfl (sub_cons rfl (sub_cons rfl (sub_cons rfl (sub_cons rfl (sub_cons rfl (sub_cons rfl (sub_cons rfl (sub_cons rfl (sub_cons rfl sub_nil)))))))))))))
        case hi_33 => omega
        case hm_33 => omega
      · try simp only [decide_eq_true_eq, decide_eq_false_iff_not, Bool.not_eq_true', Bool.not_eq_false', Bool.not_eq_eq_eq_not, Bool.not_true, Bool.not_false, ne_eq, Decidable.not_not, Classical.not_not] at hc2
        refine gc_exit ?_
        refine gk_then_exit ?_
        refine gk_then_exit ?_
        refine gk_block_hit ?_
        refine gk_then (hK19 _ _ ?_)
        refine gc_seq fun K34 hK34 => ?_
        obtain rfl : k = n.toNat := by omega
        refine gc_region ?_
        refine g_v (.free rfl) rfl rfl (qt_move rfl rfl) ?_
        refine g_v (.free rfl) rfl rfl (qt_move rfl rfl) ?_
        refine g_v (.free rfl) rfl rfl (qt_len rfl rfl ulE2 (fun w M => lenV_U (n := 2) rfl M)) ?_
        refine g_v (.free rfl) rfl rfl (qt_neq_f rfl rfl rfl (fun h => h (by rw [hpl]))) ?_
        refine g_nil ?_
        refine gk_then (hK34 _ _ ?_)
        refine gc_cond_f rfl ?_
        refine gc_skip ?_
        refine gk_then (hK16 _ _ ?_)
        refine gc_seq fun K35 hK35 => ?_
        refine gc_region ?_
        refine g_v (.free rfl) rfl rfl (qt_move rfl rfl) ?_
        refine g_op (.free rfl) fun K37 hK37 => ?_
        refine go_callFour rfl rfl rfl Try.func53 rfl (by decide) rfl (fun w M => drawPush_any w _ _ _ (inb_below M.1 h)) ?_
        intro m kk x z xa xk za zk hlx hlz hcm hck
        refine hK37 _ _ ?_
        refine g_v (.free rfl) rfl rfl (qt_move rfl rfl) ?_
        refine g_v (.free rfl) rfl rfl (qt_extract rfl rfl rfl) ?_
        refine g_v (.free rfl) rfl rfl (qt_extract rfl rfl rfl) ?_
        refine g_v (.free rfl) rfl rfl (qt_extract rfl rfl rfl) ?_
        refine g_v (.free rfl) rfl rfl (qt_extract rfl rfl rfl) ?_
        refine g_v (.free rfl) rfl rfl (qt_assign rfl rfl) ?_
        refine g_v (.free rfl) rfl rfl (qt_assign rfl rfl) ?_
        refine g_v (.free rfl) rfl rfl (qt_assign rfl rfl) ?_
        refine g_v (.free rfl) rfl rfl (qt_assign rfl rfl) ?_
        refine g_nil ?_
        refine gk_then (hK35 _ _ ?_)
        refine gc_seq fun K38 hK38 => ?_
        obtain ⟨p, r2, hQ⟩ : ∃ p r2, fPushoutOf m x kk z = (p, r2) := ⟨_, _, rfl⟩
        have hqf := push_facts hQ
        have HQi := fun (w : World) (v u : Value) (h1 : Rd w v x) (h2 : Rd w u z) => impl_PushoutOf w m v x kk u z h1 h2
        simp only [hQ] at HQi
        have HQs := fun (w : World) (v u : Value) (h1 : Rd w v x) (h2 : Rd w u z) => spec_PushoutOf w m v x kk u z h1 h2
        simp only [hQ] at HQs
        refine gc_region ?_
        refine g_v (.free rfl) rfl rfl (qt_move rfl rfl) ?_
        refine g_v (.free rfl) rfl rfl (qt_move rfl rfl) ?_
        refine g_v (.free rfl) rfl rfl (qt_move rfl rfl) ?_
        refine g_v (.free rfl) rfl rfl (qt_move rfl rfl) ?_
        refine g_op (.free rfl) fun K40 hK40 => ?_
        refine go_callLI rfl rfl rfl Try.func54 rfl (by decide) rfl (fun w M => HQi w _ _ (two_rd1 (n := 3) M rfl) (two_rd2 (n := 3) M rfl)) ?_
        intro va39 vc39
        refine hK40 _ _ ?_
        refine g_v (.free rfl) rfl rfl (qt_move rfl rfl) ?_
        refine g_v (.free rfl) rfl rfl (qt_extract rfl rfl rfl) ?_
        refine g_v (.free rfl) rfl rfl (qt_extract rfl rfl rfl) ?_
        refine g_v (.free rfl) rfl rfl (qt_assign rfl rfl) ?_
        refine g_v (.free rfl) rfl rfl (qt_assign rfl rfl) ?_
        refine g_nil ?_
        refine gk_then (hK38 _ _ ?_)
        refine gc_seq fun K41 hK41 => ?_
        refine gc_region ?_
        refine g_v (.free rfl) rfl rfl (qt_move rfl rfl) ?_
        refine g_v (.free rfl) rfl rfl (qt_move rfl rfl) ?_
        refine g_v (.free rfl) rfl rfl (qt_move rfl rfl) ?_
        refine g_v (.free rfl) rfl rfl (qt_move rfl rfl) ?_
        refine g_op (.free rfl) fun K43 hK43 => ?_
        refine go_callLI rfl rfl rfl Try.func55 rfl (by decide) rfl (fun w M => HQs w _ _ (two_rd1 (n := 3) M rfl) (two_rd2 (n := 3) M rfl)) ?_
        intro va42 vc42
        refine hK43 _ _ ?_
        refine g_v (.free rfl) rfl rfl (qt_move rfl rfl) ?_
        refine g_v (.free rfl) rfl rfl (qt_extract rfl rfl rfl) ?_
        refine g_v (.free rfl) rfl rfl (qt_extract rfl rfl rfl) ?_
        refine g_v (.free rfl) rfl rfl (qt_assign rfl rfl) ?_
        refine g_v (.free rfl) rfl rfl (qt_assign rfl rfl) ?_
        refine g_nil ?_
        refine gk_then (hK41 _ _ ?_)
        refine gc_seq fun K44 hK44 => ?_
        refine gc_seq fun K45 hK45 => ?_
        refine gc_region ?_
        refine g_v (.free rfl) rfl rfl (qt_move rfl rfl) ?_
        refine g_v (.free rfl) rfl rfl (qt_move rfl rfl) ?_
        refine g_v (.free rfl) rfl rfl (qt_neq_f rfl rfl rfl (fun h => h rfl)) ?_
        refine g_v (.free rfl) rfl rfl (qt_move rfl rfl) ?_
        refine g_v (.held _ _ _ rfl rfl rfl) rfl rfl (qt_move rfl rfl) ?_
        refine g_v (.held _ _ _ rfl rfl rfl) rfl rfl (qt_move rfl rfl) ?_
        refine g_q (.held _ _ _ rfl rfl rfl) rfl rfl (qt_call rfl Try.func42 rfl (by decide) rfl (fun w M => like_refl_any w _ _ _ ((mem_own1 (n := 4) M rfl).rd) ((mem_own1 (n := 5) M rfl).rd))) ?_
        refine g_v (.held _ _ _ rfl rfl rfl) rfl rfl (qt_not rfl rfl) ?_
        refine g_v (.free rfl) rfl rfl (qt_pick_f rfl rfl rfl) ?_
        refine g_nil ?_
        refine gk_then (hK45 _ _ ?_)
        refine gc_cond_f rfl ?_
        refine gc_skip ?_
        refine gk_then (hK44 _ _ ?_)
        refine gc_seq fun K46 hK46 => ?_
        refine gc_seq fun K47 hK47 => ?_
        refine gc_region ?_
        refine g_v (.free rfl) rfl rfl (qt_move rfl rfl) ?_
        refine g_v (.free rfl) rfl rfl (qt_neq rfl rfl rfl) ?_
        refine g_nil ?_
        refine gk_then (hK47 _ _ ?_)
        refine gc_cond rfl (fun hc3 => ?_) (fun hc3 => ?_)
        · try simp only [decide_eq_true_eq, decide_eq_false_iff_not, Bool.not_eq_true', Bool.not_eq_false', Bool.not_eq_eq_eq_not, Bool.not_true, Bool.not_false, ne_eq, Decidable.not_not, Classical.not_not] at hc3
          refine gc_seq fun K48 hK48 => ?_
          refine gc_region ?_
          refine g_v (.free rfl) rfl rfl (qt_assign rfl rfl) ?_
          refine g_nil ?_
          refine gk_then (hK48 _ _ ?_)
          refine gc_ret ?_
          refine gk_then_ret ?_
          refine ret_1 rfl rfl  (fun w M => ?_)
          exact ⟨rfl, M.1⟩
        · try simp only [decide_eq_true_eq, decide_eq_false_iff_not, Bool.not_eq_true', Bool.not_eq_false', Bool.not_eq_eq_eq_not, Bool.not_true, Bool.not_false, ne_eq, Decidable.not_not, Classical.not_not] at hc3
          refine gc_skip ?_
          refine gk_then (hK46 _ _ ?_)
          refine gc_seq fun K49 hK49 => ?_
          obtain ⟨hMx, hMz, hmk, hco⟩ := hqf (by omega)
          have hz256 := hMz.2.1; have hm0 := hMx.1.1; have hm1 := hMx.1.2; have hk0 := hMz.1.1; have hk1 := hMz.1.2
          have HCo := fun (w : World) (v u : Value) (h1 : Rd w v x) (h2 : Rd w u (shT z m z.length)) => impl_CoequalizerOf w (m + kk) v x u (shT z m z.length) h1 h2
          simp only [hco] at HCo
          refine gc_region ?_
          refine g_op (.free rfl) fun K51 hK51 => ?_
          refine go_slice0 rfl rfl rfl Try.underlying22 ?_
          intro B50
          refine hK51 _ _ ?_
          refine g_v (.free rfl) rfl rfl (qt_assign rfl rfl) ?_
          refine g_nil ?_
          refine gk_then (hK49 _ _ ?_)
          refine gc_seq fun K52 hK52 => ?_
          refine gc_seq fun K53 hK53 => ?_
          refine gc_region ?_
          refine g_v (.free rfl) rfl rfl (qt_assign rfl rfl) ?_
          refine g_nil ?_
          refine gk_then (hK53 _ _ ?_)
          refine gc_block ?_
          try simp only [List.nil_append, List.cons_append, List.append_assoc, List.set_cons_succ, List.set_cons_zero]
          refine gc_loop ([(0, _), (3, _), (4, _), (5, _), (6, _), (7, _), (8, _), (9, _), (10, _), (11, _), (16, _), (17, _), (18, _), (19, _), (20, _), (21, _), (22, _), (23, _), (29, _), (58, _), (60, _), (63, _), (96, _), (128, _), (130, _)] : Env) (fun s : Nat × (Option Addr) × Nat => (fun (k : Nat) (a : Option Addr) (q : Nat) => ([(24, .slice a (shT z m k).length q), (25, .int .i64 (k : Int))] : Env)) s.1 s.2.1 s.2.2) (fun s : Nat × (Option Addr) × Nat => (fun (k : Nat) (a : Option Addr) (q : Nat) => ([(6, own1I (.slice a (shT z m k).length q) (shT z m k))] : List (Nat × Itm))) s.1 s.2.1 s.2.2) (fun s : Nat × (Option Addr) × Nat => (fun (k : Nat) (a : Option Addr) (q : Nat) => k ≤ z.length) s.1 s.2.1 s.2.2) (fun s : Nat × (Option Addr) × Nat => (fun (k : Nat) (a : Option Addr) (q : Nat) => z.length - k) s.1 s.2.1 s.2.2) (0, _, _) (sub_cons rfl (sub_cons rfl (sub_cons rfl (sub_cons rfl (sub_cons rfl (sub_cons rfl (sub_cons rfl (sub_cons rfl (sub_cons rfl (sub_cons rfl (sub_cons rfl (sub_cons rfl (sub_cons rfl (sub_cons rfl (sub_cons rfl (sub_cons rfl (sub_cons rfl (sub_cons rfl (sub_cons rfl (sub_cons rfl (sub_cons rfl (sub_cons rfl (sub_cons rfl (sub_cons rfl (sub_cons rfl (sub_cons rfl (sub_cons rfl sub_nil))))))))))))))))))))))))))) rfl (Nat.zero_le _) ?_
          rintro ⟨k, a, q⟩ hinv KL54 hKL54
          simp only [updL, List.foldl_cons, List.foldl_nil, List.set_cons_succ, List.set_cons_zero, List.cons_append, List.nil_append] at hinv hKL54 ⊢
          have hk := hinv
          refine gc_seq fun K55 hK55 => ?_
          refine gc_seq fun K56 hK56 => ?_
          refine gc_region ?_
          refine g_v (.free rfl) rfl rfl (qt_move rfl rfl) ?_
          refine g_v (.free rfl) rfl rfl (qt_move rfl rfl) ?_
          refine g_v (.free rfl) rfl rfl (qt_len rfl rfl ulE1 (fun w M => lenV_rd (two_rd2 (n := 3) M rfl))) ?_
          refine g_v (.free rfl) rfl rfl (qt_lss rfl rfl rfl) ?_
          refine g_nil ?_
          refine gk_then (hK56 _ _ ?_)
          refine gc_cond rfl (fun hc4 => ?_) (fun hc4 => ?_)
          · try simp only [decide_eq_true_eq, decide_eq_false_iff_not, Bool.not_eq_true', Bool.not_eq_false', Bool.not_eq_eq_eq_not, Bool.not_true, Bool.not_false, ne_eq, Decidable.not_not, Classical.not_not] at hc4
            refine gc_skip ?_
            refine gk_then (hK55 _ _ ?_)
            refine gc_seq fun K57 hK57 => ?_
            refine gc_block ?_
            have hzk := hMz.2.2 _ (at0_memC (j := k) (by omega))
            have hsl := shT_len z m k
            refine gc_region ?_
            refine g_v (.free rfl) rfl rfl (qt_move rfl rfl) ?_
            refine g_v (.free rfl) rfl rfl (qt_move rfl rfl) ?_
            refine g_v (.free rfl) rfl rfl (qt_move rfl rfl) ?_
            refine g_v (.free rfl) rfl rfl (qt_move rfl rfl) ?_
            refine g_v (.free rfl) rfl rfl (qt_index rfl rfl rfl ulE1 szE1 (fun w M => lenA_rd (two_rd2 (n := 3) M rfl)) (by omega) (by omega)) ?_
            refine g_v (.free rfl) rfl rfl (qt_load1 rfl rfl Try.underlying2 rfl (fun w M => two_rd2 (n := 3) M rfl) (by omega) (by omega)) ?_
            refine g_v (.free rfl) rfl rfl (qt_add rfl rfl rfl (by omega)) ?_
            refine g_op (.free rfl) fun K59 hK59 => ?_
            refine go_slice1 rfl rfl rfl rfl Try.underlying22 ?_
            intro B58
            refine hK59 _ _ ?_
            refine g_op (.free rfl) fun K61 hK61 => ?_
            refine go_append (n := 6) (m := 7) rfl rfl rfl Try.underlying22 rfl rfl rfl rfl (by omega) ?_
            intro va60 vc60
            refine hK61 _ _ ?_
            refine g_v (.free rfl) rfl rfl (qt_assign rfl rfl) ?_
            refine g_nil ?_
            refine gk_block ?_
            refine gk_then (hK57 _ _ ?_)
            refine gc_region ?_
            refine g_v (.free rfl) rfl rfl (qt_move rfl rfl) ?_
            refine g_v (.free rfl) rfl rfl (qt_add rfl rfl rfl (by omega)) ?_
            refine g_v (.free rfl) rfl rfl (qt_assign rfl rfl) ?_
            refine g_nil ?_
            simp only [shT_succ]
            refine gk_then (gk_take 7 ?_)
            refine gk_sub ?hs_62 (hKL54 (k + 1, _, _) ?hi_62 ?hm_62)
            case hs_62 => exact (sub_cons rfl (sub_cons rfl (sub_cons rfl (sub_cons rfl (sub_cons rfl (sub_cons rfl (sub_cons rfl (sub_cons rfl (sub_cons rfl (sub_cons rfl (sub_cons rfl (sub_cons rfl (sub_cons rfl (sub_cons rfl (sub_cons rfl (sub_cons rfl (sub_cons rfl (sub_cons rfl (sub_cons rfl (sub_cons rfl (sub_cons rfl (sub_cons rfl (sub_cons rfl (sub_cons rfl (sub_cons rfl (sub_cons rfl (sub_cons rfl sub_nil)))))))))))))))))))))))))))
            case hi_62 => omega
            case hm_62 => omega
          · try simp only [decide_eq_true_eq, decide_eq_false_iff_not, Bool.not_eq_true', Bool.not_eq_false', Bool.not_eq_eq_eq_not, Bool.not_true, Bool.not_false, ne_eq, Decidable.not_not, Classical.not_not] at hc4
            refine gc_exit ?_
            refine gk_then_exit ?_
            refine gk_then_exit ?_
            refine gk_block_hit ?_
            refine gk_then (hK52 _ _ ?_)
            refine gc_seq fun K63 hK63 => ?_
            obtain rfl : k = z.length := by omega
            refine gc_region ?_
            refine g_v (.free rfl) rfl rfl (qt_move rfl rfl) ?_
            refine g_v (.free rfl) rfl rfl (qt_move rfl rfl) ?_
            refine g_v (.free rfl) rfl rfl (qt_add rfl rfl rfl (by omega)) ?_
            refine g_v (.free rfl) rfl rfl (qt_move rfl rfl) ?_
            refine g_v (.free rfl) rfl rfl (qt_move rfl rfl) ?_
            refine g_op (.free rfl) fun K65 hK65 => ?_
            refine go_callLI rfl rfl rfl Try.func56 rfl (by decide) rfl (fun w M => HCo w _ _ (two_rd1 (n := 3) M rfl) ((mem_own1 (n := 6) M rfl).rd)) ?_
            intro va64 vc64
            refine hK65 _ _ ?_
            refine g_v (.free rfl) rfl rfl (qt_move rfl rfl) ?_
            refine g_v (.free rfl) rfl rfl (qt_extract rfl rfl rfl) ?_
            refine g_v (.free rfl) rfl rfl (qt_extract rfl rfl rfl) ?_
            refine g_v (.free rfl) rfl rfl (qt_assign rfl rfl) ?_
            refine g_v (.free rfl) rfl rfl (qt_assign rfl rfl) ?_
            refine g_nil ?_
            refine gk_then (hK63 _ _ ?_)
            refine gc_seq fun K66 hK66 => ?_
            refine gc_region ?_
            refine g_v (.free rfl) rfl rfl (qt_move rfl rfl) ?_
            refine g_v (.free rfl) rfl rfl (qt_eql_t rfl rfl rfl rfl) ?_
            refine g_v (.free rfl) rfl rfl (qt_move rfl rfl) ?_
            refine g_v (.held _ _ _ rfl rfl rfl) rfl rfl (qt_move rfl rfl) ?_
            refine g_v (.held _ _ _ rfl rfl rfl) rfl rfl (qt_move rfl rfl) ?_
            refine g_q (.held _ _ _ rfl rfl rfl) rfl rfl (qt_call rfl Try.func42 rfl (by decide) rfl (fun w M => like_refl_any w _ _ _ ((mem_own1 (n := 7) M rfl).rd) ((mem_own1 (n := 5) M rfl).rd))) ?_
            refine g_v (.free rfl) rfl rfl (qt_pick_t rfl rfl rfl) ?_
            refine g_v (.free rfl) rfl rfl (qt_assign rfl rfl) ?_
            refine g_nil ?_
            refine gk_then (hK66 _ _ ?_)
            refine gc_ret ?_
            refine ret_1 rfl rfl  (fun w M => ?_)
            exact ⟨rfl, M.1⟩
    · try simp only [decide_eq_true_eq, decide_eq_false_iff_not, Bool.not_eq_true', Bool.not_eq_false', Bool.not_eq_eq_eq_not, Bool.not_true, Bool.not_false, ne_eq, Decidable.not_not, Classical.not_not] at hc1
      refine gc_skip ?_
      refine gk_then (hK16 _ _ ?_)
      refine gc_seq fun K67 hK67 => ?_
      refine gc_region ?_
      refine g_v (.free rfl) rfl rfl (qt_move rfl rfl) ?_
      refine g_op (.free rfl) fun K69 hK69 => ?_
      refine go_callFour rfl rfl rfl Try.func53 rfl (by decide) rfl (fun w M => drawPush_any w _ _ _ (inb_below M.1 h)) ?_
      intro m kk x z xa xk za zk hlx hlz hcm hck
      refine hK69 _ _ ?_
      refine g_v (.free rfl) rfl rfl (qt_move rfl rfl) ?_
      refine g_v (.free rfl) rfl rfl (qt_extract rfl rfl rfl) ?_
      refine g_v (.free rfl) rfl rfl (qt_extract rfl rfl rfl) ?_
      refine g_v (.free rfl) rfl rfl (qt_extract rfl rfl rfl) ?_
      refine g_v (.free rfl) rfl rfl (qt_extract rfl rfl rfl) ?_
      refine g_v (.free rfl) rfl rfl (qt_assign rfl rfl) ?_
      refine g_v (.free rfl) rfl rfl (qt_assign rfl rfl) ?_
      refine g_v (.free rfl) rfl rfl (qt_assign rfl rfl) ?_
      refine g_v (.free rfl) rfl rfl (qt_assign rfl rfl) ?_
      refine g_nil ?_
      refine gk_then (hK67 _ _ ?_)
      refine gc_seq fun K70 hK70 => ?_
      obtain ⟨p, r2, hQ⟩ : ∃ p r2, fPushoutOf m x kk z = (p, r2) := ⟨_, _, rfl⟩
      have hqf := push_facts hQ
      have HQi := fun (w : World) (v u : Value) (h1 : Rd w v x) (h2 : Rd w u z) => impl_PushoutOf w m v x kk u z h1 h2
      simp only [hQ] at HQi
      have HQs := fun (w : World) (v u : Value) (h1 : Rd w v x) (h2 : Rd w u z) => spec_PushoutOf w m v x kk u z h1 h2
      simp only [hQ] at HQs
      refine gc_region ?_
      refine g_v (.free rfl) rfl rfl (qt_move rfl rfl) ?_
      refine g_v (.free rfl) rfl rfl (qt_move rfl rfl) ?_
      refine g_v (.free rfl) rfl rfl (qt_move rfl rfl) ?_
      refine g_v (.free rfl) rfl rfl (qt_move rfl rfl) ?_
      refine g_op (.free rfl) fun K72 hK72 => ?_
      refine go_callLI rfl rfl rfl Try.func54 rfl (by decide) rfl (fun w M => HQi w _ _ (two_rd1 (n := 3) M rfl) (two_rd2 (n := 3) M rfl)) ?_
      intro va71 vc71
      refine hK72 _ _ ?_
      refine g_v (.free rfl) rfl rfl (qt_move rfl rfl) ?_
      refine g_v (.free rfl) rfl rfl (qt_extract rfl rfl rfl) ?_
      refine g_v (.free rfl) rfl rfl (qt_extract rfl rfl rfl) ?_
      refine g_v (.free rfl) rfl rfl (qt_assign rfl rfl) ?_
      refine g_v (.free rfl) rfl rfl (qt_assign rfl rfl) ?_
      refine g_nil ?_
      refine gk_then (hK70 _ _ ?_)
      refine gc_seq fun K73 hK73 => ?_
      refine gc_region ?_
      refine g_v (.free rfl) rfl rfl (qt_move rfl rfl) ?_
      refine g_v (.free rfl) rfl rfl (qt_move rfl rfl) ?_
      refine g_v (.free rfl) rfl rfl (qt_move rfl rfl) ?_
      refine g_v (.free rfl) rfl rfl (qt_move rfl rfl) ?_
      refine g_op (.free rfl) fun K75 hK75 => ?_
      refine go_callLI rfl rfl rfl Try.func55 rfl (by decide) rfl (fun w M => HQs w _ _ (two_rd1 (n := 3) M rfl) (two_rd2 (n := 3) M rfl)) ?_
      intro va74 vc74
      refine hK75 _ _ ?_
      refine g_v (.free rfl) rfl rfl (qt_move rfl rfl) ?_
      refine g_v (.free rfl) rfl rfl (qt_extract rfl rfl rfl) ?_
      refine g_v (.free rfl) rfl rfl (qt_extract rfl rfl rfl) ?_
      refine g_v (.free rfl) rfl rfl (qt_assign rfl rfl) ?_
      refine g_v (.free rfl) rfl rfl (qt_assign rfl rfl) ?_
      refine g_nil ?_
      refine gk_then (hK73 _ _ ?_)
      refine gc_seq fun K76 hK76 => ?_
      refine gc_seq fun K77 hK77 => ?_
      refine gc_region ?_
      refine g_v (.free rfl) rfl rfl (qt_move rfl rfl) ?_
      refine g_v (.free rfl) rfl rfl (qt_move rfl rfl) ?_
      refine g_v (.free rfl) rfl rfl (qt_neq_f rfl rfl rfl (fun h => h rfl)) ?_
      refine g_v (.free rfl) rfl rfl (qt_move rfl rfl) ?_
      refine g_v (.held _ _ _ rfl rfl rfl) rfl rfl (qt_move rfl rfl) ?_
      refine g_v (.held _ _ _ rfl rfl rfl) rfl rfl (qt_move rfl rfl) ?_
      refine g_q (.held _ _ _ rfl rfl rfl) rfl rfl (qt_call rfl Try.func42 rfl (by decide) rfl (fun w M => like_refl_any w _ _ _ ((mem_own1 (n := 4) M rfl).rd) ((mem_own1 (n := 5) M rfl).rd))) ?_
      refine g_v (.held _ _ _ rfl rfl rfl) rfl rfl (qt_not rfl rfl) ?_
      refine g_v (.free rfl) rfl rfl (qt_pick_f rfl rfl rfl) ?_
      refine g_nil ?_
      refine gk_then (hK77 _ _ ?_)
      refine gc_cond_f rfl ?_
      refine gc_skip ?_
      refine gk_then (hK76 _ _ ?_)
      refine gc_seq fun K78 hK78 => ?_
      refine gc_seq fun K79 hK79 => ?_
      refine gc_region ?_
      refine g_v (.free rfl) rfl rfl (qt_move rfl rfl) ?_
      refine g_v (.free rfl) rfl rfl (qt_neq rfl rfl rfl) ?_
      refine g_nil ?_
      refine gk_then (hK79 _ _ ?_)
      refine gc_cond rfl (fun hc5 => ?_) (fun hc5 => ?_)
      · try simp only [decide_eq_true_eq, decide_eq_false_iff_not, Bool.not_eq_true', Bool.not_eq_false', Bool.not_eq_eq_eq_not, Bool.not_true, Bool.not_false, ne_eq, Decidable.not_not, Classical.not_not] at hc5
        refine gc_seq fun K80 hK80 => ?_
        refine gc_region ?_
        refine g_v (.free rfl) rfl rfl (qt_assign rfl rfl) ?_
        refine g_nil ?_
        refine gk_then (hK80 _ _ ?_)
        refine gc_ret ?_
        refine gk_then_ret ?_
        refine ret_1 rfl rfl  (fun w M => ?_)
        exact ⟨rfl, M.1⟩
      · try simp only [decide_eq_true_eq, decide_eq_false_iff_not, Bool.not_eq_true', Bool.not_eq_false', Bool.not_eq_eq_eq_not, Bool.not_true, Bool.not_false, ne_eq, Decidable.not_not, Classical.not_not] at hc5
        refine gc_skip ?_
        refine gk_then (hK78 _ _ ?_)
        refine gc_seq fun K81 hK81 => ?_
        obtain ⟨hMx, hMz, hmk, hco⟩ := hqf (by omega)
        have hz256 := hMz.2.1; have hm0 := hMx.1.1; have hm1 := hMx.1.2; have hk0 := hMz.1.1; have hk1 := hMz.1.2
        have HCo := fun (w : World) (v u : Value) (h1 : Rd w v x) (h2 : Rd w u (shT z m z.length)) => impl_CoequalizerOf w (m + kk) v x u (shT z m z.length) h1 h2
        simp only [hco] at HCo
        refine gc_region ?_
        refine g_op (.free rfl) fun K83 hK83 => ?_
        refine go_slice0 rfl rfl rfl Try.underlying22 ?_
        intro B82
        refine hK83 _ _ ?_
        refine g_v (.free rfl) rfl rfl (qt_assign rfl rfl) ?_
        refine g_nil ?_
        refine gk_then (hK81 _ _ ?_)
        refine gc_seq fun K84 hK84 => ?_
        refine gc_seq fun K85 hK85 => ?_
        refine gc_region ?_
        refine g_v (.free rfl) rfl rfl (qt_assign rfl rfl) ?_
        refine g_nil ?_
        refine gk_then (hK85 _ _ ?_)
        refine gc_block ?_
        try simp only [List.nil_append, List.cons_append, List.append_assoc, List.set_cons_succ, List.set_cons_zero]
        refine gc_loop ([(0, _), (2, _), (3, _), (4, _), (5, _), (6, _), (7, _), (8, _), (9, _), (16, _), (17, _), (18, _), (19, _), (20, _), (21, _), (22, _), (23, _), (29, _), (58, _), (60, _), (128, _), (130, _)] : Env) (fun s : Nat × (Option Addr) × Nat => (fun (k : Nat) (a : Option Addr) (q : Nat) => ([(24, .slice a (shT z m k).length q), (25, .int .i64 (k : Int))] : Env)) s.1 s.2.1 s.2.2) (fun s : Nat × (Option Addr) × Nat => (fun (k : Nat) (a : Option Addr) (q : Nat) => ([(6, own1I (.slice a (shT z m k).length q) (shT z m k))] : List (Nat × Itm))) s.1 s.2.1 s.2.2) (fun s : Nat × (Option Addr) × Nat => (fun (k : Nat) (a : Option Addr) (q : Nat) => k ≤ z.length) s.1 s.2.1 s.2.2) (fun s : Nat × (Option Addr) × Nat => (fun (k : Nat) (a : Option Addr) (q : Nat) => z.length - k) s.1 s.2.1 s.2.2) (0, _, _) (sub_cons rfl (sub_cons rfl (sub_cons rfl (sub_cons rfl (sub_cons rfl (sub_cons rfl (sub_cons rfl (sub_cons rfl (sub_cons rfl (sub_cons rfl (sub_cons rfl (sub_cons rfl (sub_cons rfl (sub_cons rfl (sub_cons rfl (sub_cons rfl (sub_cons rfl (sub_cons rfl (sub_cons rfl (sub_cons rfl (sub_cons rfl (sub_cons rfl (sub_cons rfl (sub_cons rfl sub_nil)))))))))))))))))))))))) rfl (Nat.zero_le _) ?_
        rintro ⟨k, a, q⟩ hinv KL86 hKL86
        simp only [updL, List.foldl_cons, List.foldl_nil, List.set_cons_succ, List.set_cons_zero, List.cons_append, List.nil_append] at hinv hKL86 ⊢
        have hk := hinv
        refine gc_seq fun K87 hK87 => ?_
        refine gc_seq fun K88 hK88 => ?_
        refine gc_region ?_
        refine g_v (.free rfl) rfl rfl (qt_move rfl rfl) ?_
        refine g_v (.free rfl) rfl rfl (qt_move rfl rfl) ?_
        refine g_v (.free rfl) rfl rfl (qt_len rfl rfl ulE1 (fun w M => lenV_rd (two_rd2 (n := 3) M rfl))) ?_
        refine g_v (.free rfl) rfl rfl (qt_lss rfl rfl rfl) ?_
        refine g_nil ?_
        refine gk_then (hK88 _ _ ?_)
        refine gc_cond rfl (fun hc6 => ?_) (fun hc6 => ?_)
        · try simp only [decide_eq_true_eq, decide_eq_false_iff_not, Bool.not_eq_true', Bool.not_eq_false', Bool.not_eq_eq_eq_not, Bool.not_true, Bool.not_false, ne_eq, Decidable.not_not, Classical.not_not] at hc6
          refine gc_skip ?_
          refine gk_then (hK87 _ _ ?_)
          refine gc_seq fun K89 hK89 => ?_
          refine gc_block ?_
          have hzk := hMz.2.2 _ (at0_memC (j := k) (by omega))
          have hsl := shT_len z m k
          refine gc_region ?_
          refine g_v (.free rfl) rfl rfl (qt_move rfl rfl) ?_
          refine g_v (.free rfl) rfl rfl (qt_move rfl rfl) ?_
          refine g_v (.free rfl) rfl rfl (qt_move rfl rfl) ?_
          refine g_v (.free rfl) rfl rfl (qt_move rfl rfl) ?_
          refine g_v (.free rfl) rfl rfl (qt_index rfl rfl rfl ulE1 szE1 (fun w M => lenA_rd (two_rd2 (n := 3) M rfl)) (by omega) (by omega)) ?_
          refine g_v (.free rfl) rfl rfl (qt_load1 rfl rfl Try.underlying2 rfl (fun w M => two_rd2 (n := 3) M rfl) (by omega) (by omega)) ?_
          refine g_v (.free rfl) rfl rfl (qt_add rfl rfl rfl (by omega)) ?_
          refine g_op (.free rfl) fun K91 hK91 => ?_
          refine go_slice1 rfl rfl rfl rfl Try.underlying22 ?_
          intro B90
          refine hK91 _ _ ?_
          refine g_op (.free rfl) fun K93 hK93 => ?_
          refine go_append (n := 6) (m := 7) rfl rfl rfl Try.underlying22 rfl rfl rfl rfl (by omega) ?_
          intro va92 vc92
          refine hK93 _ _ ?_
          refine g_v (.free rfl) rfl rfl (qt_assign rfl rfl) ?_
          refine g_nil ?_
          refine gk_block ?_
          refine gk_then (hK89 _ _ ?_)
          refine gc_region ?_
          refine g_v (.free rfl) rfl rfl (qt_move rfl rfl) ?_
          refine g_v (.free rfl) rfl rfl (qt_add rfl rfl rfl (by omega)) ?_
          refine g_v (.free rfl) rfl rfl (qt_assign rfl rfl) ?_
          refine g_nil ?_
          simp only [shT_succ]
          refine gk_then (gk_take 7 ?_)
          refine gk_sub ?hs_94 (hKL86 (k + 1, _, _) ?hi_94 ?hm_94)
          case hs_94 => exact (sub_cons rfl (sub_cons rfl (sub_cons rfl (sub_cons rfl (sub_cons rfl (sub_cons rfl (sub_cons rfl (sub_cons rfl (sub_cons rfl (sub_cons rfl (sub_cons rfl (sub_cons rfl (sub_cons rfl (sub_cons rfl (sub_cons rfl (sub_cons rfl (sub_cons rfl (sub_cons rfl (sub_cons rfl (sub_cons rfl (sub_cons rfl (sub_cons rfl (sub_cons rfl (sub_cons rfl sub_nil))))))))))))))))))))))))
          case hi_94 => omega
          case hm_94 => omega
        · try simp only [decide_eq_true_eq, decide_eq_false_iff_not, Bool.not_eq_true', Bool.not_eq_false', Bool.not_eq_eq_eq_not, Bool.not_true, Bool.not_false, ne_eq, Decidable.not_not, Classical.not_not] at hc6
          refine gc_exit ?_
          refine gk_then_exit ?_
          refine gk_then_exit ?_
          refine gk_block_hit ?_
          refine gk_then (hK84 _ _ ?_)
          refine gc_seq fun K95 hK95 => ?_
          obtain rfl : k = z.length := by omega
          refine gc_region ?_
          refine g_v (.free rfl) rfl rfl (qt_move rfl rfl) ?_
          refine g_v (.free rfl) rfl rfl (qt_move rfl rfl) ?_
          refine g_v (.free rfl) rfl rfl (qt_add rfl rfl rfl (by omega)) ?_
          refine g_v (.free rfl) rfl rfl (qt_move rfl rfl) ?_
          refine g_v (.free rfl) rfl rfl (qt_move rfl rfl) ?_
          refine g_op (.free rfl) fun K97 hK97 => ?_
          refine go_callLI rfl rfl rfl Try.func56 rfl (by decide) rfl (fun w M => HCo w _ _ (two_rd1 (n := 3) M rfl) ((mem_own1 (n := 6) M rfl).rd)) ?_
          intro va96 vc96
          refine hK97 _ _ ?_
          refine g_v (.free rfl) rfl rfl (qt_move rfl rfl) ?_
          refine g_v (.free rfl) rfl rfl (qt_extract rfl rfl rfl) ?_
          refine g_v (.free rfl) rfl rfl (qt_extract rfl rfl rfl) ?_
          refine g_v (.free rfl) rfl rfl (qt_assign rfl rfl) ?_
          refine g_v (.free rfl) rfl rfl (qt_assign rfl rfl) ?_
          refine g_nil ?_
          refine gk_then (hK95 _ _ ?_)
          refine gc_seq fun K98 hK98 => ?_
          refine gc_region ?_
          refine g_v (.free rfl) rfl rfl (qt_move rfl rfl) ?_
          refine g_v (.free rfl) rfl rfl (qt_eql_t rfl rfl rfl rfl) ?_
          refine g_v (.free rfl) rfl rfl (qt_move rfl rfl) ?_
          refine g_v (.held _ _ _ rfl rfl rfl) rfl rfl (qt_move rfl rfl) ?_
          refine g_v (.held _ _ _ rfl rfl rfl) rfl rfl (qt_move rfl rfl) ?_
          refine g_q (.held _ _ _ rfl rfl rfl) rfl rfl (qt_call rfl Try.func42 rfl (by decide) rfl (fun w M => like_refl_any w _ _ _ ((mem_own1 (n := 7) M rfl).rd) ((mem_own1 (n := 5) M rfl).rd))) ?_
          refine g_v (.free rfl) rfl rfl (qt_pick_t rfl rfl rfl) ?_
          refine g_v (.free rfl) rfl rfl (qt_assign rfl rfl) ?_
          refine g_nil ?_
          refine gk_then (hK98 _ _ ?_)
          refine gc_ret ?_
          refine ret_1 rfl rfl  (fun w M => ?_)
          exact ⟨rfl, M.1⟩

end Go.Proofs.Ytfnneogadciimab
