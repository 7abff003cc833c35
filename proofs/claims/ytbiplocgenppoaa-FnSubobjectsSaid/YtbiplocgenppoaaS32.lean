import Derived.Test.YtbiplocgenppoaaS4
import Derived.Test.YtbiplocgenppoaaS31
import Derived.Test.YtbiplocgenppoaaS12
import Derived.Test.YtbiplocgenppoaaS16
import Derived.Test.YtbiplocgenppoaaS13
import Derived.Test.YtbiplocgenppoaaS1
set_option maxHeartbeats 1000000
set_option maxRecDepth 100000
set_option linter.unusedSimpArgs false
set_option linter.unusedVariables false
set_option linter.unusedSectionVars false
namespace Go.Proofs.Ytbiplocgenppoaa
open _root_.Go.Proofs.Try
open Go.RowKit
theorem star_rdC {F : List Itm} {w : World} {S : Nat → Prop} {c : Cat} {vs vt ve vm : Value} {us : List Value} (a b d g : Nat) (h1 : F[a]? = some (own1I vs c.s)) (h2 : F[b]? = some (own1I vt c.t)) (h3 : F[d]? = some (own1I ve c.e)) (h4 : F[g]? = some (own2U vm us c.m)) (h : Star F w S) : RdC w (.agg #[.int .i64 c.ob, vs, vt, ve, vm]) c := by
 obtain ⟨S1, _, p1⟩ := star_get F h1 h
 obtain ⟨S2, _, p2⟩ := star_get F h2 h
 obtain ⟨S3, _, p3⟩ := star_get F h3 h
 obtain ⟨S4, _, p4⟩ := star_get F h4 h
 exact ⟨vs, vt, ve, vm, rfl, Own1.rd p1, Own1.rd p2, Own1.rd p3, Own2.rd (S := S4) ⟨us, p4⟩⟩
def RetMHV {α : Type} (w0 : World) (i : Itm) (F : List Itm) (P : Cat → α → Prop) (V : α → Value → Value) (e : Ending) (w' : World) : Prop := ∃ (c : Cat) (v : Value) (x : α), P c x ∧ e = .returned (V x v) ∧ Mem w0 w' [i, tailI F, heldI (fun w => RdC w v c)]
section
variable {w0 : World} {is : List Itm} {Q : Exit → Act → World → Prop} {o : Oper} {N : Frm} {e : Env} {d : Nat} {K : Act → World → Prop} {f : FuncId} {fn : Func} {ags : Array Operand} {ts : Array TypeId} {vs : List Value}
theorem go_callMHV {α : Type} {i : Itm} {F : List Itm} {P : Cat → α → Prop} {V : α → Value → Value} (hd : o.dst = some d) (hN : Nat.blt d N = true) (hop : o.op = .call { callee := .value (.func f), args := ags, argTypes := ts }) (hfn : Try.prog.funcs[f]? = some fn) (hb : fn.body.isNone = false) (hn : (fn.name == "runtime.NumGoroutine") = false)
  (hargs : evoL e ags.toList = some vs) (his : is = i :: F) (hc : ∀ w, Mem w0 w [i, tailI F] → Calls Try.prog f vs.toArray w (RetMHV w0 i F P V))
  (hk : ∀ (c : Cat) (x : α) (a1 a2 a3 a4 : Option Addr) (k1 k2 k3 k4 : Nat), P c x → GK w0 (is ++ [heldI fun w => RdC w (.agg #[.int .i64 c.ob, .slice a1 c.s.length k1, .slice a2 c.t.length k2, .slice a3 c.e.length k3, .slice a4 c.m.length k4]) c]) N K ((d, V x (.agg #[.int .i64 c.ob, .slice a1 c.s.length k1, .slice a2 c.t.length k2, .slice a3 c.e.length k3, .slice a4 c.m.length k4])) :: e)) : GO w0 is N o e Q K := by
 subst his
 intro w a M G
 refine go_call hd hN G hop hfn hb hn hargs (hc w (mem_tail_in (L := [i]) M)) fun e' w' hR => ?_
 obtain ⟨c, v, x, hP, rfl, M'⟩ := hR
 obtain ⟨a1, a2, a3, a4, k1, k2, k3, k4, rfl, _⟩ := (mem_held (n := 2) M' rfl).lists
 exact ⟨_, rfl, fun a G => hk c x a1 a2 a3 a4 k1 k2 k3 k4 hP w' a (mem_mid (J := [heldI fun w => RdC w _ c]) M') G⟩
theorem go_callMH {i : Itm} {F : List Itm} {P : Cat → Prop} (hd : o.dst = some d) (hN : Nat.blt d N = true) (hop : o.op = .call { callee := .value (.func f), args := ags, argTypes := ts }) (hfn : Try.prog.funcs[f]? = some fn) (hb : fn.body.isNone = false) (hn : (fn.name == "runtime.NumGoroutine") = false)
  (hargs : evoL e ags.toList = some vs) (his : is = i :: F) (hc : ∀ w, Mem w0 w [i, tailI F] → Calls Try.prog f vs.toArray w (RetMH w0 i F P))
  (hk : ∀ (c : Cat) (a1 a2 a3 a4 : Option Addr) (k1 k2 k3 k4 : Nat), P c → GK w0 (is ++ [heldI fun w => RdC w (.agg #[.int .i64 c.ob, .slice a1 c.s.length k1, .slice a2 c.t.length k2, .slice a3 c.e.length k3, .slice a4 c.m.length k4]) c]) N K ((d, .agg #[.int .i64 c.ob, .slice a1 c.s.length k1, .slice a2 c.t.length k2, .slice a3 c.e.length k3, .slice a4 c.m.length k4]) :: e)) : GO w0 is N o e Q K :=
 go_callMHV (α := Unit) (P := fun c _ => P c) (V := fun _ v => v) hd hN hop hfn hb hn hargs his (fun w M => (hc w M).mono fun e w1 h => by obtain ⟨c, v, hP, he, M'⟩ := h; exact ⟨c, v, (), hP, he, M'⟩) fun c _ => hk c
end
theorem specNumber_any (w0 w : World) (ca : Option Addr) (cl cc g : Nat) (F : List Itm) (hI : InB w0 (.slice ca cl cc)) (n : Int) (hn : -9223372036854775808 ≤ n ∧ n ≤ 9223372036854775807) (M : Mem w0 w [srcI ca cl cc g, tailI F]) :
  Calls Try.prog 38 #[.pointer (some ⟨g, 0, none⟩), .int .i64 n] w (RetM w0 (srcI ca cl cc g) F (fun r : Int => -9223372036854775808 ≤ r ∧ r ≤ 9223372036854775807) (fun r => .int .i64 r) (fun _ => [])) := by
 go_enter func38, Try.ntmps38
 refine gc_enterM M (N := 15) rfl (look_cons (k := 0) rfl (look_cons (k := 1) rfl (look_nil _))) ?_
 clear M
 refine gc_sr fun K1 hK1 => ?_
 refine gas ?_
 refine gnt (hK1 _ _ ?_)
 refine gc_seq fun K2 hK2 => ?_
 refine gc_sr fun K3 hK3 => ?_
 refine gm ?_
 refine gop fun K5 hK5 => ?_
 refine go_srcNext (n := 0) rfl rfl rfl func51 rfl (by decide) rfl hI rfl (by omega) ?_
 intro r4 hs4
 refine hK5 _ _ ?_
 refine gv (qt_eql rfl rfl rfl) ?_
 refine gnt (hK3 _ _ ?_)
 refine gc_cond rfl (fun hc0 => ?_) (fun hc0 => ?_)
 ·try simp only [sA] at hc0
  refine gc_sr fun K6 hK6 => ?_
  refine gm ?_
  refine gm ?_
  refine gop fun K8 hK8 => ?_
  refine go_slice4I rfl rfl rfl rfl rfl rfl rfl underlying24 ?_
  intro B7
  refine hK8 _ _ ?_
  refine gop fun K10 hK10 => ?_
  refine go_srcPick (n := 0) (m := 2) rfl rfl rfl func52 rfl (by decide) rfl hI rfl rfl (by decide) (by simp) ?_
  intro r9 hs9; simp only [List.mem_cons, List.not_mem_nil, or_false] at hs9
  refine hK10 _ _ ?_
  refine gas ?_
  refine gnt (hK6 _ _ ?_)
  refine gc_ret ?_
  refine gk_then_ret ?_
  refine ret_1 rfl rfl  (fun w M => ?_)
  exact ⟨_, ⟨by omega, by omega⟩, rfl, mem_take 2 M⟩
 try simp only [sA] at hc0
 refine gc_skip ?_
 refine gk_then (hK2 _ _ ?_)
 refine gc_sr fun K11 hK11 => ?_
 refine gm ?_
 refine gm ?_
 refine gop fun K13 hK13 => ?_
 refine go_srcNext (n := 0) rfl rfl rfl func51 rfl (by decide) rfl hI rfl (by omega) ?_
 intro r12 hs12
 refine hK13 _ _ ?_
 refine gas ?_
 refine gnt (hK11 _ _ ?_)
 refine gc_ret ?_
 refine ret_1 rfl rfl  (fun w M => ?_)
 exact ⟨_, ⟨by omega, by omega⟩, rfl, mem_take 2 M⟩
theorem specDraw_any (w0 w : World) (ca : Option Addr) (cl cc g : Nat) (F : List Itm) (hI : InB w0 (.slice ca cl cc)) (o a : Int) (ho : 1 ≤ o) (ha : 1 ≤ a) (M : Mem w0 w [srcI ca cl cc g, tailI F]) :
  Calls Try.prog 37 #[.pointer (some ⟨g, 0, none⟩), .int .i64 o, .int .i64 a] w (RetMH w0 (srcI ca cl cc g) F DrawP) := by
 go_enter func37, Try.ntmps37
 refine gc_enterM M (N := 19) rfl (look_cons (k := 0) rfl (look_cons (k := 1) rfl (look_cons (k := 2) rfl (look_nil _)))) ?_
 clear M
 refine gc_sr fun K1 hK1 => ?_
 refine gop fun K3 hK3 => ?_
 refine galC ?_
 intro B2
 refine hK3 _ _ ?_
 refine gnt (hK1 _ _ ?_)
 refine gc_sr fun K4 hK4 => ?_
 refine gm ?_
 refine gm ?_
 refine gm ?_
 refine gop fun K6 hK6 => ?_
 refine go_callMC (P := SomeP o a) rfl rfl rfl func61 rfl (by decide) rfl rfl (fun w M => specSome_any _ w ca cl cc g _ hI o a ho ha M) ?_
 intro cz5 ca5 cb5 cc5 cd5 ce5 cf5 cg5 ch5 cu5 hsome
 refine hK6 _ _ ?_
 refine gop fun K8 hK8 => ?_
 refine galC ?_
 intro B7
 refine hK8 _ _ ?_
 refine gop fun K9 hK9 => ?_
 refine gss 7 ?_
 refine hK9 _ _ ?_
 refine gnt (hK4 _ _ ?_)
 refine gc_seq fun K10 hK10 => ?_
 refine gc_sr fun K11 hK11 => ?_
 refine gm ?_
 refine gop fun K13 hK13 => ?_
 refine go_srcNext (n := 0) rfl rfl rfl func51 rfl (by decide) rfl hI rfl (by omega) ?_
 intro r12 hs12
 refine hK13 _ _ ?_
 refine gv (qt_eql rfl rfl rfl) ?_
 refine gnt (hK11 _ _ ?_)
 refine gc_cond rfl (fun hc0 => ?_) (fun hc0 => ?_)
 ·try simp only [sA] at hc0
  refine gc_sr fun K14 hK14 => ?_
  refine gm ?_
  refine gv (qts underlying27 (n := 7)) ?_
  refine gop fun K16 hK16 => ?_
  refine go_callMH (P := DrawP) rfl rfl rfl func62 rfl (by decide) rfl rfl (fun w M => specBend_any _ w ca cl cc g _ hI _ _ _ _ _ _ _ _ _ (fun w S h => star_rdC 2 3 4 5 rfl rfl rfl rfl h) hsome.1 M) ?_
  intro bz15 ba15 bb15 bc15 bd15 be15 bf15 bg15 bh15 hdraw
  refine hK16 _ _ ?_
  refine gop fun K17 hK17 => ?_
  refine gss 2 ?_
  refine hK17 _ _ ?_
  refine gnt (hK14 _ _ ?_)
  refine gc_ret ?_
  refine gk_then_ret ?_
  refine ret_S (n := 2) rfl rfl underlying27 rfl (by kernel_rfl) rfl (fun w M => ?_)
  exact ⟨_, _, hdraw, rfl, mem_take 3 (mem_pick (n := 2) (mem_pick (n := 2) (mem_pick (n := 8) (M) rfl) rfl) rfl)⟩
 try simp only [sA] at hc0
 refine gc_skip ?_
 refine gk_then (hK10 _ _ ?_)
 refine gc_sr fun K18 hK18 => ?_
 refine gv (qts underlying27 (n := 7)) ?_
 refine gop fun K19 hK19 => ?_
 refine gss 2 ?_
 refine hK19 _ _ ?_
 refine gnt (hK18 _ _ ?_)
 refine gc_ret ?_
 refine ret_S (n := 2) rfl rfl underlying27 rfl (by kernel_rfl) rfl (fun w M => ?_)
 exact ⟨_, _, draw_of hsome.1, rfl, mem_packH [_, _] (mem_take 6 (mem_pick (n := 5) (mem_pick (n := 5) (mem_pick (n := 6) (mem_pick (n := 6) (mem_pick (n := 6) (mem_pick (n := 6) (M) rfl) rfl) rfl) rfl) rfl) rfl))⟩
end Go.Proofs.Ytbiplocgenppoaa
namespace Go.Proofs.Ytbiplocgenppoaa
open _root_.Go.Proofs.Try
open Go.RowKit
def NumP (r : Int) : Prop := -9223372036854775808 ≤ r ∧ r ≤ 9223372036854775807
end Go.Proofs.Ytbiplocgenppoaa
namespace Go.Proofs.Ytbiplocgenppoaa
open _root_.Go.Proofs.Try
open Go.RowKit
def RetHV {α : Type} (W : World) (P : Cat → α → Prop) (V : α → Value → Value) (e : Ending) (w' : World) : Prop := ∃ (c : Cat) (v : Value) (x : α), P c x ∧ e = .returned (V x v) ∧ Below W.heap.size W w' ∧ (heldI fun w => RdC w v c).p w' (fun k => W.heap.size ≤ k)
theorem mem_heldP {w0 w : World} {is : List Itm} {n : Nat} {φ : World → Prop} (M : Mem w0 w is) (h : is[n]? = some (heldI φ)) : (heldI φ).p w (fun k => w0.heap.size ≤ k) := by
 obtain ⟨S, hS, hb⟩ := mem_get M h
 exact (held_loc φ).keep (fun k _ hk => hS k hk) agree_refl hb
section
variable {w0 : World} {is : List Itm} {Q : Exit → Act → World → Prop} {o : Oper} {N : Frm} {e : Env} {d : Nat} {K : Act → World → Prop} {f : FuncId} {fn : Func} {ags : Array Operand} {ts : Array TypeId} {vs : List Value}
theorem go_callHV {α : Type} {P : Cat → α → Prop} {V : α → Value → Value} (hd : o.dst = some d) (hN : Nat.blt d N = true) (hop : o.op = .call { callee := .value (.func f), args := ags, argTypes := ts }) (hfn : Try.prog.funcs[f]? = some fn) (hb : fn.body.isNone = false) (hn : (fn.name == "runtime.NumGoroutine") = false)
  (hargs : evoL e ags.toList = some vs) (hc : ∀ w, Mem w0 w is → Calls Try.prog f vs.toArray w (RetHV w P V))
  (hk : ∀ (c : Cat) (x : α) (a1 a2 a3 a4 : Option Addr) (k1 k2 k3 k4 : Nat), P c x → GK w0 (is ++ [heldI fun w => RdC w (.agg #[.int .i64 c.ob, .slice a1 c.s.length k1, .slice a2 c.t.length k2, .slice a3 c.e.length k3, .slice a4 c.m.length k4]) c]) N K ((d, V x (.agg #[.int .i64 c.ob, .slice a1 c.s.length k1, .slice a2 c.t.length k2, .slice a3 c.e.length k3, .slice a4 c.m.length k4])) :: e)) : GO w0 is N o e Q K := by
 intro w a M G
 refine go_call hd hN G hop hfn hb hn hargs (hc w M) fun e' w' hR => ?_
 obtain ⟨c, v, x, hP, rfl, hbl, hp⟩ := hR
 obtain ⟨a1, a2, a3, a4, k1, k2, k3, k4, rfl, _⟩ := ((hp : ∀ w2, Agree _ w' w2 → RdC w2 v c) w' agree_refl).lists
 exact ⟨_, rfl, fun a G => hk c x a1 a2 a3 a4 k1 k2 k3 k4 hP w' a (mem_new M hbl hp) G⟩
end
end Go.Proofs.Ytbiplocgenppoaa
namespace Go.Proofs.Ytbiplocgenppoaa
open _root_.Go.Proofs.Try
open Go.RowKit
theorem drawSubobjectsOf_any (w : World) (ca : Option Addr) (clen ccap : Nat) (h : InB w (.slice ca clen ccap)) :
    Calls Try.prog 15 #[.slice ca clen ccap] w (RetHV w (fun c (x : Int) => DrawP c ∧ NumP x) (fun x v => .tuple #[v, .int .i64 x])) := by
  go_enter func15, Try.ntmps15
  refine gc_enter (N := 15) rfl (look_cons (k := 0) rfl (look_nil _)) ?_
  refine gc_seq fun K1 hK1 => ?_
  refine gc_region ?_
  refine g_op (.free rfl) fun K3 hK3 => ?_
  refine galC ?_
  intro B2
  refine hK3 _ _ ?_
  refine g_v (.free rfl) rfl rfl (qt_assign rfl rfl) ?_
  refine g_nil ?_
  refine gk_then (hK1 _ _ ?_)
  refine gc_seq fun K4 hK4 => ?_
  refine gc_region ?_
  refine g_v (.free rfl) rfl rfl (qt_move rfl rfl) ?_
  refine g_op (.free rfl) fun K6 hK6 => ?_
  refine go_srcFrom rfl rfl rfl func22 rfl (by decide) rfl h ?_
  intro g; refine gk_pickL [1, 0] ?_
  refine hK6 _ _ ?_
  refine g_v (.free rfl) rfl rfl (qt_assign rfl rfl) ?_
  refine g_nil ?_
  refine gk_then (hK4 _ _ ?_)
  refine gc_seq fun K7 hK7 => ?_
  refine gc_region ?_
  refine g_v (.free rfl) rfl rfl (qt_move rfl rfl) ?_
  refine g_op (.free rfl) fun K9 hK9 => ?_
  refine go_callMH (P := DrawP) rfl rfl rfl func37 rfl (by decide) rfl rfl (fun w M => specDraw_any _ w ca clen ccap g _ h _ _ (by decide) (by decide) M) ?_
  intro cz8 ca8 cb8 cc8 cd8 ce8 cf8 cg8 ch8 hdraw; have hdd := hdraw; obtain ⟨q1, q2, q3, q4, q5, q6⟩ := hdd
  refine hK9 _ _ ?_
  refine g_op (.free rfl) fun K11 hK11 => ?_
  refine galC ?_
  intro B10
  refine hK11 _ _ ?_
  refine g_op (.free rfl) fun K12 hK12 => ?_
  refine gss 3 ?_
  refine hK12 _ _ ?_
  refine g_nil ?_
  refine gk_then (hK7 _ _ ?_)
  refine gc_seq fun K13 hK13 => ?_
  try simp only [List.nil_append, List.cons_append, List.append_assoc, List.set_cons_succ, List.set_cons_zero]
  refine ga_start _ (fun w M => mem_erase 0 (mem_erase 1 (M))) ?_
  refine ga_v 0 rfl (by kernel_rfl) (by kernel_rfl) (by kernel_rfl) (.free rfl) rfl rfl (qt_loadS (n := 1) rfl rfl underlying27 rfl (by kernel_rfl) rfl) (fun _ _ _ h => h) ?_
  refine ga_v 1 rfl (by kernel_rfl) (by kernel_rfl) (by kernel_rfl) (.free rfl) rfl rfl (qt_move rfl rfl) (fun _ _ _ h => h) ?_
  refine ga_v 2 rfl (by kernel_rfl) (by kernel_rfl) (by kernel_rfl) (.free rfl) rfl rfl (qt_field (z := 0) (off := 0) rfl rfl underlying27 rfl (by kernel_rfl) rfl) (fun _ _ _ h => h) ?_
  refine ga_v 3 rfl (by kernel_rfl) (by kernel_rfl) (by kernel_rfl) (.free rfl) rfl rfl (qt_loadB (n := 1) rfl rfl underlying2 rfl rfl rfl) (fun _ _ _ h => h) ?_
  refine ga_op 4 (by kernel_rfl) rfl (.free rfl) fun K15 hK15 => ?_
  refine go_callM (α := Int) rfl rfl rfl func38 rfl (by decide) rfl rfl (fun w M => specNumber_any _ w ca clen ccap g _ h _ ⟨by omega, by omega⟩ M) ?_
  intro r14 hs14; dsimp only at hs14 ⊢; try simp only [List.append_nil]
  refine hK15 _ _ (fun w M => (ms0 0 1 4 M :)) ?_
  refine ga_op 5 (by kernel_rfl) rfl (.free rfl) fun K16 hK16 => ?_
  refine gss 1 ?_
  refine hK16 _ _ (fun w M => (ms0 0 1 4 M :)) ?_
  refine ga_v 6 rfl (by kernel_rfl) (by kernel_rfl) (by kernel_rfl) (.free rfl) rfl rfl (qt_assign rfl rfl) (fun _ _ _ h => h) ?_
  refine ga_done (by kernel_rfl) ?_
  refine gk_then (hK13 _ _ ?_)
  refine gc_ret ?_
  refine ret_SI (n := 1) rfl rfl rfl underlying27 rfl (by kernel_rfl) rfl (fun w M => ?_)
  first | exact ⟨_, _, _, hdraw, rfl, M.1, mem_heldP (n := 2) M rfl⟩ | exact ⟨_, _, _, ⟨hdraw, by constructor <;> omega⟩, rfl, M.1, mem_heldP (n := 2) M rfl⟩
end Go.Proofs.Ytbiplocgenppoaa
namespace Go.Proofs.Ytbiplocgenppoaa
open _root_.Go.Proofs.Try
open Go.RowKit
theorem retractions_any (w : World) (v : Value) (c : Cat) (f : Int) (h : RdC w v c) (hS : ShapeP c) (f0 : 0 ≤ f) (f1 : f < c.s.length) :
  Calls Try.prog 36 #[v, .int .i64 f] w (RetL w (retL c f)) := by
 have h0 := h
 obtain ⟨va, vb, vc, vd, ve, vf, vg, vh, rfl, h1, h2, h3, h4, _⟩ := h.lists
 have hn40 := hS.n40
 have hA := arrP hS f0 f1
 have a1 := hA.fs; have a2 := hA.ft; have a3 := hA.fm; have a4 := hA.row
 go_enter func36, Try.ntmps36
 refine gc_enter (N := 14) rfl (look_cons (k := 0) rfl (look_cons (k := 1) rfl (look_nil _))) ?_
 refine gc_sr fun K1 hK1 => ?_
 refine gop fun K3 hK3 => ?_
 refine go_box rfl rfl rfl rfl rfl ?_
 intro B2
 refine hK3 _ _ ?_
 refine gas ?_
 refine gnt (hK1 _ _ ?_)
 refine gc_seq fun K4 hK4 => ?_
 try simp only [sL]
 refine ga_start _ (fun w M => M) ?_
 refine gav 0 rfl (qts underlying27 (n := 0)) ?_
 refine gav 1 rfl (qts underlying27 (n := 0)) ?_
 refine gav 2 rfl (qt_move rfl rfl) ?_
 refine gav 4 rfl (qts underlying27 (n := 0)) ?_
 refine gav 5 rfl (qt_move rfl rfl) ?_
 refine gao 3 fun K6 hK6 => ?_
 refine go_callFv rfl rfl rfl func59 rfl (by decide) rfl (fun w M => behind_any w (_) _ _ _ (h0) (M.1) (by first | assumption | omega) (by first | assumption | omega) (by first | assumption | omega)) ?_
 intro fv5
 refine hK6 _ _ (fun w M => (mem_take 1 M :)) ?_
 refine gao 6 fun K7 hK7 => ?_
 refine go_q rfl rfl (qt_call rfl func60 rfl (by decide) rfl (fun w M => units_any w _ _ _ (mem_rdC M h0) (hA))) ?_
 refine hK7 _ _ (fun w M => (mem_take 1 M :)) ?_
 refine gav 7 rfl (qt_fieldPair rfl rfl) ?_
 refine gao 8 fun K9 hK9 => ?_
 refine go_callL rfl rfl rfl func49 rfl (by decide) rfl (fun w M => solutions_any w _ _ (_) (beh c f) (_) (mem_rdC M h0) (by first | assumption | omega) (fun w' hb => mem_fv (n := 1) M rfl hb)) ?_
 intro va8 vc8
 refine hK9 _ _ (fun w M => (mem_take 1 M :)) ?_
 refine gav 9 rfl (qt_assign rfl rfl) ?_
 refine ga_done (by kernel_rfl) ?_
 refine gk_then (hK4 _ _ ?_)
 refine gc_ret ?_
 refine ret_1 rfl rfl  (fun w M => ?_)
 exact ⟨_, rfl, mem_own1 (n := 2) M rfl, M.1⟩
theorem sections_any (w : World) (v : Value) (c : Cat) (f : Int) (h : RdC w v c) (hS : ShapeP c) (f0 : 0 ≤ f) (f1 : f < c.s.length) :
  Calls Try.prog 71 #[v, .int .i64 f] w (RetL w (secL c f)) := by
 have h0 := h
 obtain ⟨va, vb, vc, vd, ve, vf, vg, vh, rfl, h1, h2, h3, h4, _⟩ := h.lists
 have hn40 := hS.n40
 have hA := arrP hS f0 f1
 have a1 := hA.fs; have a2 := hA.ft; have a3 := hA.fm; have a4 := hA.row
 go_enter func71, Try.ntmps71
 refine gc_enter (N := 14) rfl (look_cons (k := 0) rfl (look_cons (k := 1) rfl (look_nil _))) ?_
 refine gc_sr fun K1 hK1 => ?_
 refine gop fun K3 hK3 => ?_
 refine go_box rfl rfl rfl rfl rfl ?_
 intro B2
 refine hK3 _ _ ?_
 refine gas ?_
 refine gnt (hK1 _ _ ?_)
 refine gc_seq fun K4 hK4 => ?_
 try simp only [sL]
 refine ga_start _ (fun w M => M) ?_
 refine gav 0 rfl (qts underlying27 (n := 0)) ?_
 refine gav 1 rfl (qts underlying27 (n := 0)) ?_
 refine gav 2 rfl (qt_move rfl rfl) ?_
 refine gav 4 rfl (qts underlying27 (n := 0)) ?_
 refine gav 5 rfl (qt_move rfl rfl) ?_
 refine gao 3 fun K6 hK6 => ?_
 refine go_callFv rfl rfl rfl func50 rfl (by decide) rfl (fun w M => before_any w (_) _ _ _ (h0) (M.1) (by first | assumption | omega) (by first | assumption | omega) (by first | assumption | omega)) ?_
 intro fv5
 refine hK6 _ _ (fun w M => (mem_take 1 M :)) ?_
 refine gao 6 fun K7 hK7 => ?_
 refine go_q rfl rfl (qt_call rfl func60 rfl (by decide) rfl (fun w M => units_any w _ _ _ (mem_rdC M h0) (hA))) ?_
 refine hK7 _ _ (fun w M => (mem_take 1 M :)) ?_
 refine gav 7 rfl (qt_fieldPair2 rfl rfl) ?_
 refine gao 8 fun K9 hK9 => ?_
 refine go_callL rfl rfl rfl func49 rfl (by decide) rfl (fun w M => solutions_any w _ _ (_) (bef c f) (_) (mem_rdC M h0) (by first | assumption | omega) (fun w' hb => mem_fv (n := 1) M rfl hb)) ?_
 intro va8 vc8
 refine hK9 _ _ (fun w M => (mem_take 1 M :)) ?_
 refine gav 9 rfl (qt_assign rfl rfl) ?_
 refine ga_done (by kernel_rfl) ?_
 refine gk_then (hK4 _ _ ?_)
 refine gc_ret ?_
 refine ret_1 rfl rfl  (fun w M => ?_)
 exact ⟨_, rfl, mem_own1 (n := 2) M rfl, M.1⟩
theorem impl_LiftsOf (w : World) (v : Value) (c : Cat) (f g : Int) (h : RdC w v c) :
  Calls Try.prog 20 #[v, .int .i64 f, .int .i64 g] w (RetLI w (fLiftsOf c f g).1 (fLiftsOf c f g).2) := by
 have h0 := h
 obtain ⟨va, vb, vc, vd, ve, vf, vg, vh, rfl, h1, h2, h3, h4, _⟩ := h.lists
 go_enter func20, Try.ntmps20
 refine gc_enter (N := 38) rfl (look_cons (k := 0) rfl (look_cons (k := 1) rfl (look_cons (k := 2) rfl (look_nil _)))) ?_
 refine gc_seqR fun K1 hK1 => ?_
 refine gc_region ?_
 refine gop fun K3 hK3 => ?_
 refine go_box rfl rfl rfl rfl rfl ?_
 intro B2
 refine hK3 _ _ ?_
 refine gas ?_
 refine gas ?_
 refine gnt (hK1 _ _ ?_)
 refine gc_seqR fun K4 hK4 => ?_
 refine gc_region ?_
 refine gv (qts underlying27 (n := 0)) ?_
 refine gm ?_
 refine gm ?_
 refine gop fun K6 hK6 => ?_
 refine go_slice2 rfl rfl rfl rfl rfl underlying24 ?_
 intro B5
 refine hK6 _ _ ?_
 refine gop fun K8 hK8 => ?_
 refine go_callCI rfl rfl rfl func48 rfl (by decide) rfl (fun w M => readArrows_any w _ _ _ _ (mem_rdC M h0) ((mem_own1 (n := 1) M rfl).rd)) ?_
 intro ca7 cb7 cc7 cd7 ce7 cf7 cg7 ch7 cu7
 refine hK8 _ _ ?_
 refine gm ?_
 refine gv (qt_extract rfl rfl rfl) ?_
 refine gv (qt_extract rfl rfl rfl) ?_
 refine gop fun K10 hK10 => ?_
 refine galC ?_
 intro B9
 refine hK10 _ _ ?_
 refine gop fun K11 hK11 => ?_
 refine gss 6 ?_
 refine hK11 _ _ ?_
 refine gas ?_
 refine gnt (hK4 _ _ ?_)
 refine gc_seqR fun K12 hK12 => ?_
 refine gc_seqR fun K13 hK13 => ?_
 refine gc_region ?_
 refine gm ?_
 refine gv (qt_neq rfl rfl rfl) ?_
 refine gnt (hK13 _ _ ?_)
 refine gc_cond rfl (fun hc0 => ?_) (fun hc0 => ?_)
 ·try simp only [sA] at hc0
  refine gc_seqR fun K14 hK14 => ?_
  refine gc_region ?_
  refine gm ?_
  refine gas ?_
  refine gas ?_
  refine gnt (hK14 _ _ ?_)
  refine gc_ret ?_
  refine gk_then_ret ?_
  refine ret_2 rfl rfl rfl  (fun w M => ?_)
  rw [LiftsOf_e hc0]; exact ⟨_, rfl, Sl.nil _ _, M.1⟩
 try simp only [sA] at hc0
 refine gc_skip ?_
 refine gk_then (hK12 _ _ ?_)
 refine gc_seqR fun K15 hK15 => ?_
 refine gc_seqR fun K16 hK16 => ?_
 have hE := arrErr_0 hc0
 have hC := hE.1
 have hS := hC.toShapeP
 have hf := allP_two.1 hE.2
 have f0 := hf.1.1; have f1 := hf.1.2; have g0 := hf.2.1; have g1 := hf.2.2
 have hA := arrP hS f0 f1; have hB := arrP hS g0 g1
 have a1 := hA.fs; have a2 := hA.ft; have b1 := hB.fs; have b2 := hB.ft
 have hn40 := hS.n40
 simp only [arrCat_t hc0]
 refine gc_draw (by kernel_rfl) ?_
 refine gdv (qtf underlying27 (z := 0) (off := 2)) ?_
 refine gdv (qtl underlying24 (n := 6)) ?_
 refine gdv (qt_move rfl rfl) ?_
 refine gdv (qti (fun w M => lenA_own1 (n := 3) rfl M)) ?_
 refine gdv (qtd (fun w M => (mem_own1 (n := 3) M rfl).rd)) ?_
 refine gdv (qtf underlying27 (z := 0) (off := 2)) ?_
 refine gdv (qtl underlying24 (n := 6)) ?_
 refine gdv (qt_move rfl rfl) ?_
 refine gdv (qti (fun w M => lenA_own1 (n := 3) rfl M)) ?_
 refine gdv (qtd (fun w M => (mem_own1 (n := 3) M rfl).rd)) ?_
 refine gdv (qt_neq rfl rfl rfl) ?_
 refine gd_nil ?_
 refine gk_then (hK16 _ _ ?_)
 refine gc_cond rfl (fun hc1 => ?_) (fun hc1 => ?_)
 ·try simp only [sA] at hc1
  refine gc_seqR fun K17 hK17 => ?_
  refine gc_region ?_
  refine gas ?_
  refine gas ?_
  refine gnt (hK17 _ _ ?_)
  refine gc_ret ?_
  refine gk_then_ret ?_
  refine ret_2 rfl rfl rfl  (fun w M => ?_)
  rw [LiftsOf_s hc0 hc1]; exact ⟨_, rfl, Sl.nil _ _, M.1⟩
 try simp only [sA] at hc1
 refine gc_skip ?_
 refine gk_then (hK15 _ _ ?_)
 refine gc_seqR fun K18 hK18 => ?_
 refine gc_rebase fun w1 M1 => ?_
 have hb8 := bxV_of (n := 6) M1 rfl
 have hR8 := (rdC_mk ((mem_own1 (n := 2) M1 rfl).rd) ((mem_own1 (n := 3) M1 rfl).rd) ((mem_own1 (n := 4) M1 rfl).rd) (mem_rdU (n := 5) M1 rfl))
 have hR80 := hR8
 skip
 try simp only [sL]
 refine ga_start _ (fun w M => M) ?_
 refine gav 0 rfl (qt_loadRS hb8 rfl rfl underlying27 rfl (by kernel_rfl)) ?_
 refine gav 1 rfl (qt_loadRS hb8 rfl rfl underlying27 rfl (by kernel_rfl)) ?_
 refine gav 2 rfl (qt_move rfl rfl) ?_
 refine gav 4 rfl (qt_move rfl rfl) ?_
 refine gao 3 fun K20 hK20 => ?_
 refine go_callFv rfl rfl rfl func50 rfl (by decide) rfl (fun w M => before_any w (_) _ _ _ (hR8) (M.1) (by first | assumption | omega) (by first | assumption | omega) (by first | assumption | omega)) ?_
 intro fv19
 refine hK20 _ _ (fun w M => (mem_take 0 M :)) ?_
 refine gao 5 fun K22 hK22 => ?_
 refine go_callL rfl rfl rfl func49 rfl (by decide) rfl (fun w M => solutions_any w _ _ (_) (bef c g) (_) (mem_rdC M hR8) (by first | assumption | omega) (fun w' hb => mem_fv (n := 0) M rfl hb)) ?_
 intro va21 vc21
 refine hK22 _ _ (fun w M => (mem_take 0 M :)) ?_
 refine gav 6 rfl (qt_assign rfl rfl) ?_
 refine gav 7 rfl (qt_assign rfl rfl) ?_
 refine ga_done (by kernel_rfl) ?_
 refine gk_then (hK18 _ _ ?_)
 refine gc_ret ?_
 refine ret_2 rfl rfl rfl  (fun w M => ?_)
 rw [LiftsOf_t hc0 hc1]
 exact ⟨_, rfl, (mem_own1 (n := 1) M rfl).mono M1.1.size, M1.1.trans (M.1.mono M1.1.size)⟩
theorem addK_b {s k m : Int} {b : Bool} (hs : 0 ≤ s ∧ s ≤ m) (hk : 0 ≤ k) : 0 ≤ addK s k b ∧ addK s k b ≤ m + k := by cases b <;> simp only [addK, cond_true, cond_false] <;> omega
theorem addK_w {x m : Int} (h : 0 ≤ x ∧ x ≤ m) (hm : m ≤ 1000) : 0 ≤ x ∧ x ≤ 1000 := ⟨h.1, by omega⟩
theorem kindsAdd_any (w0 w : World) (j0 : Itm) (F : List Itm) (B : Nat) (s k : Int) (b : Bool) (hs : 0 ≤ s ∧ s ≤ 1000) (hk : 0 ≤ k ∧ k ≤ 100) (M : Mem w0 w [j0, bxI B 2 [.int .i64 s], tailI F]) :
  Calls Try.prog 70 #[.int .i64 k, .bool b, .pointer (some ⟨B, 0, none⟩)] w (fun e w' => e = .returned (.tuple #[]) ∧ ∃ (_ _ : Unit), Mem w0 w' [j0, bxI B 2 [.int .i64 (addK s k b)], tailI F]) := by
 go_enter func70, Try.ntmps70
 refine gc_enterM M (N := 9) rfl (look_cons (k := 0) rfl (look_cons (k := 1) rfl (look_cons (k := 2) rfl (look_nil _)))) ?_
 clear M
 refine gc_sr fun K1 hK1 => ?_
 refine gm ?_
 refine gnt (hK1 _ _ ?_)
 refine gc_cond rfl (fun hc0 => ?_) (fun hc0 => ?_)
 ·try simp only [sA] at hc0
  refine gc_region ?_
  refine gv (qtl underlying2 (n := 1)) ?_
  refine gm ?_
  refine gv (qt_add rfl rfl rfl (by omega)) ?_
  refine gop fun K2 hK2 => ?_
  refine go_storeB (n := 1) rfl rfl rfl rfl (by kernel_rfl) rfl rfl rfl (by first | decide | simp) ?_
  refine hK2 _ _ ?_
  refine g_nil ?_
  refine ret_0n rfl (fun w M => ?_)
  rw [addK_t hc0]; exact ⟨rfl, (), (), M⟩
 try simp only [sA] at hc0
 refine gc_skip ?_
 refine ret_0n rfl (fun w M => ?_)
 rw [addK_f hc0]; exact ⟨rfl, (), (), M⟩
theorem kinds_any (w : World) (v : Value) (c : Cat) (f : Int) (h : RdC w v c) (hS : ShapeP c) (f0 : 0 ≤ f) (f1 : f < c.s.length) :
  Calls Try.prog 47 #[v, .int .i64 f] w (RetI w (kindN c f)) := by
 have h0 := h
 obtain ⟨va, vb, vc, vd, ve, vf, vg, vh, rfl, h1, h2, h3, h4, _⟩ := h.lists
 go_enter func47, Try.ntmps47
 refine gc_enter (N := 38) rfl (look_cons (k := 0) rfl (look_cons (k := 1) rfl (look_nil _))) ?_
 refine gc_sr fun K1 hK1 => ?_
 refine gop fun K3 hK3 => ?_
 refine go_box rfl rfl rfl rfl rfl ?_
 intro B2
 refine hK3 _ _ ?_
 refine gas ?_
 refine gnt (hK1 _ _ ?_)
 refine gc_sr fun K4 hK4 => ?_
 refine gop fun K6 hK6 => ?_
 refine go_alloc (z := (.int .i64 0)) (cs := [.int .i64 0]) rfl rfl rfl (fun w => by kernel_rfl) rfl ?_
 intro B5
 refine hK6 _ _ ?_
 refine gop fun K7 hK7 => ?_
 refine go_storeB (n := 1) rfl rfl rfl rfl (by kernel_rfl) rfl rfl rfl (by first | decide | simp) ?_
 refine hK7 _ _ ?_
 refine gnt (hK4 _ _ ?_)
 refine gc_sr fun K8 hK8 => ?_
 refine gv (qt_makeF rfl rfl) ?_
 refine gas ?_
 refine gnt (hK8 _ _ ?_)
 refine gc_sr fun K9 hK9 => ?_
 refine gm ?_
 refine gv (qts underlying27 (n := 0)) ?_
 refine gm ?_
 refine g_q (.free rfl) rfl rfl (qt_call rfl func24 rfl (by decide) rfl (fun w M => isMono_any w _ _ _ (mem_rdC M h0) (by first | assumption | omega) (by first | assumption | omega) (by first | assumption | omega))) ?_
 refine gop fun K11 hK11 => ?_
 refine go_clo 2 (L := [_, _]) (α := Unit) (β := Unit) rfl rfl rfl rfl func70 rfl (by decide) rfl rfl rfl (fun w M => kindsAdd_any _ w _ _ _ _ _ _ (by exact addK_w ⟨Int.le_refl 0, Int.le_refl 0⟩ (by omega)) ⟨by omega, by omega⟩ M) (fun _ _ => rfl) ?_
 intro _ _; simp only [List.take_succ_cons, List.take_zero, List.cons_append, List.nil_append]
 refine hK11 _ _ ?_
 refine gnt (hK9 _ _ ?_)
 refine gc_sr fun K12 hK12 => ?_
 refine gm ?_
 refine gv (qts underlying27 (n := 0)) ?_
 refine gm ?_
 refine g_q (.free rfl) rfl rfl (qt_call rfl func34 rfl (by decide) rfl (fun w M => isEpi_any w _ _ _ (mem_rdC M h0) (by first | assumption | omega) (by first | assumption | omega) (by first | assumption | omega))) ?_
 refine gop fun K14 hK14 => ?_
 refine go_clo 2 (L := [_, _]) (α := Unit) (β := Unit) rfl rfl rfl rfl func70 rfl (by decide) rfl rfl rfl (fun w M => kindsAdd_any _ w _ _ _ _ _ _ (by exact addK_w (addK_b ⟨Int.le_refl 0, Int.le_refl 0⟩ (by omega)) (by omega)) ⟨by omega, by omega⟩ M) (fun _ _ => rfl) ?_
 intro _ _; simp only [List.take_succ_cons, List.take_zero, List.cons_append, List.nil_append]
 refine hK14 _ _ ?_
 refine gnt (hK12 _ _ ?_)
 refine gc_sr fun K15 hK15 => ?_
 refine gm ?_
 refine gv (qts underlying27 (n := 0)) ?_
 refine gm ?_
 refine gop fun K17 hK17 => ?_
 refine go_callL rfl rfl rfl func36 rfl (by decide) rfl (fun w M => retractions_any w _ _ _ (mem_rdC M h0) (by first | assumption | omega) (by first | assumption | omega) (by first | assumption | omega)) ?_
 intro va16 vc16
 refine hK17 _ _ ?_
 refine gv (qln (fun w M => lenV_own1 (n := 2) rfl M)) ?_
 refine gv (qt_gtr rfl rfl rfl) ?_
 refine gop fun K19 hK19 => ?_
 refine go_clo 2 (L := [_, _]) (α := Unit) (β := Unit) rfl rfl rfl rfl func70 rfl (by decide) rfl rfl rfl (fun w M => kindsAdd_any _ w _ _ _ _ _ _ (by exact addK_w (addK_b (addK_b ⟨Int.le_refl 0, Int.le_refl 0⟩ (by omega)) (by omega)) (by omega)) ⟨by omega, by omega⟩ M) (fun _ _ => rfl) ?_
 intro _ _; simp only [List.take_succ_cons, List.take_zero, List.cons_append, List.nil_append]
 refine hK19 _ _ ?_
 refine gnt (hK15 _ _ ?_)
 refine gc_sr fun K20 hK20 => ?_
 refine gm ?_
 refine gv (qts underlying27 (n := 0)) ?_
 refine gm ?_
 refine gop fun K22 hK22 => ?_
 refine go_callL rfl rfl rfl func71 rfl (by decide) rfl (fun w M => sections_any w _ _ _ (mem_rdC M h0) (by first | assumption | omega) (by first | assumption | omega) (by first | assumption | omega)) ?_
 intro va21 vc21
 refine hK22 _ _ ?_
 refine gv (qln (fun w M => lenV_own1 (n := 3) rfl M)) ?_
 refine gv (qt_gtr rfl rfl rfl) ?_
 refine gop fun K24 hK24 => ?_
 refine go_clo 2 (L := [_, _]) (α := Unit) (β := Unit) rfl rfl rfl rfl func70 rfl (by decide) rfl rfl rfl (fun w M => kindsAdd_any _ w _ _ _ _ _ _ (by exact addK_w (addK_b (addK_b (addK_b ⟨Int.le_refl 0, Int.le_refl 0⟩ (by omega)) (by omega)) (by omega)) (by omega)) ⟨by omega, by omega⟩ M) (fun _ _ => rfl) ?_
 intro _ _; simp only [List.take_succ_cons, List.take_zero, List.cons_append, List.nil_append]
 refine hK24 _ _ ?_
 refine gnt (hK20 _ _ ?_)
 refine gc_sr fun K25 hK25 => ?_
 refine gm ?_
 refine gv (qts underlying27 (n := 0)) ?_
 refine gm ?_
 refine g_q (.free rfl) rfl rfl (qt_call rfl func72 rfl (by decide) rfl (fun w M => isInvertible_any w _ _ _ (mem_rdC M h0) (by first | assumption | omega) (by first | assumption | omega) (by first | assumption | omega))) ?_
 refine gop fun K27 hK27 => ?_
 refine go_clo 2 (L := [_, _]) (α := Unit) (β := Unit) rfl rfl rfl rfl func70 rfl (by decide) rfl rfl rfl (fun w M => kindsAdd_any _ w _ _ _ _ _ _ (by exact addK_w (addK_b (addK_b (addK_b (addK_b ⟨Int.le_refl 0, Int.le_refl 0⟩ (by omega)) (by omega)) (by omega)) (by omega)) (by omega)) ⟨by omega, by omega⟩ M) (fun _ _ => rfl) ?_
 intro _ _; simp only [List.take_succ_cons, List.take_zero, List.cons_append, List.nil_append]
 refine hK27 _ _ ?_
 refine gnt (hK25 _ _ ?_)
 refine gc_sr fun K28 hK28 => ?_
 refine gv (qtl underlying2 (n := 1)) ?_
 refine gas ?_
 refine gnt (hK28 _ _ ?_)
 refine gc_ret ?_
 refine ret_1 rfl rfl  (fun w M => ?_)
 exact ⟨rfl, M.1⟩
theorem impl_ArrowKinds (w : World) (v : Value) (c : Cat) (h : RdC w v c) :
  Calls Try.prog 19 #[v] w (RetLI w (fArrowKinds c).1 (fArrowKinds c).2) := by
 have h0 := h
 obtain ⟨va, vb, vc, vd, ve, vf, vg, vh, rfl, h1, h2, h3, h4, _⟩ := h.lists
 go_enter func19, Try.ntmps19
 refine gc_enter (N := 32) rfl (look_cons (k := 0) rfl (look_nil _)) ?_
 refine gc_sr fun K1 hK1 => ?_
 refine gop fun K3 hK3 => ?_
 refine go_box rfl rfl rfl rfl rfl ?_
 intro B2
 refine hK3 _ _ ?_
 refine gas ?_
 refine gas ?_
 refine gnt (hK1 _ _ ?_)
 refine gc_sr fun K4 hK4 => ?_
 refine gv (qts underlying27 (n := 0)) ?_
 refine gop fun K6 hK6 => ?_
 refine go_callCI rfl rfl rfl func27 rfl (by decide) rfl (fun w M => readCat_any w _ _ (mem_rdC M h0)) ?_
 intro ca5 cb5 cc5 cd5 ce5 cf5 cg5 ch5 cu5
 refine hK6 _ _ ?_
 refine gm ?_
 refine gv (qt_extract rfl rfl rfl) ?_
 refine gv (qt_extract rfl rfl rfl) ?_
 refine gop fun K8 hK8 => ?_
 refine galC ?_
 intro B7
 refine hK8 _ _ ?_
 refine gop fun K9 hK9 => ?_
 refine gss 5 ?_
 refine hK9 _ _ ?_
 refine gas ?_
 refine gnt (hK4 _ _ ?_)
 refine gc_seq fun K10 hK10 => ?_
 refine gc_sr fun K11 hK11 => ?_
 refine gm ?_
 refine gv (qt_neq rfl rfl rfl) ?_
 refine gnt (hK11 _ _ ?_)
 refine gc_cond rfl (fun hc0 => ?_) (fun hc0 => ?_)
 ·try simp only [sA] at hc0
  refine gc_sr fun K12 hK12 => ?_
  refine gm ?_
  refine gas ?_
  refine gas ?_
  refine gnt (hK12 _ _ ?_)
  refine gc_ret ?_
  refine gk_then_ret ?_
  refine ret_2 rfl rfl rfl  (fun w M => ?_)
  rw [(catErr_n hc0).2, ArrowKinds_e (catErr_n hc0).1]; exact ⟨_, rfl, Sl.nil _ _, M.1⟩
 try simp only [sA] at hc0
 refine gc_skip ?_
 refine gk_then (hK10 _ _ ?_)
 refine gc_seq fun K13 hK13 => ?_
 have hI := catErr_0 hc0
 simp only [catCat_t hc0]
 have hC := isCat_of hI
 have hS := hC.toShapeP
 have hn40 := hS.n40; have htl := hS.tl
 refine gc_region ?_
 refine gv (qts underlying27 (n := 5)) ?_
 refine g_q (.free rfl) rfl rfl (qt_call rfl func31 rfl (by decide) rfl (fun w M => arrows_any w _ _ (rdC_mk ((mem_own1 (n := 1) M rfl).rd) ((mem_own1 (n := 2) M rfl).rd) ((mem_own1 (n := 3) M rfl).rd) (mem_rdU (n := 4) M rfl)))) ?_
 refine gop fun K15 hK15 => ?_
 refine go_make1 rfl rfl rfl underlying24 rfl rfl (by omega) ?_
 intro B14
 refine hK15 _ _ ?_
 refine gas ?_
 refine gnt (hK13 _ _ ?_)
 refine gc_seq fun K16 hK16 => ?_
 refine gc_sr fun K17 hK17 => ?_
 refine gm ?_
 refine gv (qln (fun w M => lenV_own1 (n := 6) rfl M)) ?_
 refine gm ?_
 refine gnt (hK17 _ _ ?_)
 refine gc_block ?_
 rw [fillTo_zero (fun f => kindN c (f : Int)) c.s.length]
 try simp only [sL]
 refine gc_loopT ([(0, _), (1, _), (2, _), (3, _), (4, _), (5, _), (6, _), (14, _), (20, _)] : Env) (fun s : Nat => (fun (k : Nat) => (([(21, .int .i64 (k : Int))] : Env), ([(6, own1I (.slice (some ⟨B14, 0, none⟩) c.s.length c.s.length) (fillTo (fun f => kindN c (f : Int)) c.s.length k))] : List (Nat × Itm)), k ≤ c.s.length, c.s.length - k)) s) (0) (by repeat first | exact sub_nil | refine sub_cons rfl ?_) rfl (Nat.zero_le _) ?_
 rintro k hinv KL18 hKL18
 simp only [sU, sL] at hinv hKL18 ⊢
 have hk := hinv
 have hfl := fillTo_len (fun f => kindN c (f : Int)) c.s.length k
 have hf0 := fillTo_len (fun f => kindN c (f : Int)) c.s.length 0
 refine gc_sr fun K19 hK19 => ?_
 refine gv (qt_lss rfl rfl rfl) ?_
 refine gnt (hK19 _ _ ?_)
 refine gc_seq fun K20 hK20 => ?_
 refine gc_cond rfl (fun hc1 => ?_) (fun hc1 => ?_)
 ·try simp only [sA] at hc1
  refine gc_skip ?_
  refine gk_then (hK20 _ _ ?_)
  refine gc_seq fun K21 hK21 => ?_
  refine gc_block ?_
  refine gc_sr fun K22 hK22 => ?_
  refine gm ?_
  refine gas ?_
  refine gnt (hK22 _ _ ?_)
  have f0 : (0 : Int) ≤ (k : Int) := by omega
  have f1 : (k : Int) < c.s.length := by omega
  refine gc_region ?_
  refine gm ?_
  refine gm ?_
  refine gv (qts underlying27 (n := 5)) ?_
  refine gm ?_
  refine g_q (.free rfl) rfl rfl (qt_call rfl func47 rfl (by decide) rfl (fun w M => kinds_any w _ _ _ (rdC_mk ((mem_own1 (n := 1) M rfl).rd) ((mem_own1 (n := 2) M rfl).rd) ((mem_own1 (n := 3) M rfl).rd) (mem_rdU (n := 4) M rfl)) (by first | assumption | omega) (by first | assumption | omega) (by first | assumption | omega))) ?_
  refine gv (qti (fun w M => lenA_own1 (n := 6) rfl M)) ?_
  refine gop fun K23 hK23 => ?_
  refine go_store1 (n := 6) rfl rfl rfl rfl (by kernel_rfl) rfl (by omega) (by omega) ?_
  refine hK23 _ _ ?_
  refine g_nil ?_
  refine gk_block ?_
  refine gk_then (hK21 _ _ ?_)
  refine gc_region ?_
  refine gv (qt_add rfl rfl rfl (by omega)) ?_
  refine gm ?_
  refine g_nil ?_
  rw [fillTo_set (fun f => kindN c (f : Int)) (by omega)]
  refine gk_then (gk_take 7 ?_)
  refine gk_sub ?hs_24 (hKL18 (k + 1) ?hi_24 ?hm_24)
  case hs_24 => repeat first | exact sub_nil | refine sub_cons rfl ?_
  case hi_24 => omega
  case hm_24 => omega
 try simp only [sA] at hc1
 refine gc_exit ?_
 refine gk_then_exit ?_
 refine gk_then_exit ?_
 refine gk_block_hit ?_
 refine gk_then (hK16 _ _ ?_)
 refine gc_sr fun K25 hK25 => ?_
 refine gm ?_
 refine gas ?_
 refine gas ?_
 refine gnt (hK25 _ _ ?_)
 refine gc_ret ?_
 refine ret_2 rfl rfl rfl  (fun w M => ?_)
 obtain rfl : k = c.s.length := by omega
 rw [ArrowKinds_t hI, ← fillTo_end]
 exact ⟨_, rfl, mem_own1 (n := 6) M rfl, M.1⟩
end Go.Proofs.Ytbiplocgenppoaa
namespace Go.Proofs.Ytbiplocgenppoaa
open _root_.Go.Proofs.Try
open Go.RowKit
open Go.ChangeShapes Go.WideShapes Go.ChangeAt
theorem like_any (w : World) (v1 v2 : Value) (xs ys : List Int) (h1 : Rd w v1 xs) (h2 : Rd w v2 ys) :
    Calls Try.prog 46 #[v1, v2] w (RetB w (decide (xs = ys))) := by
  obtain ⟨a, cap, rfl, hl, hc⟩ := h1
  obtain ⟨a2, cap2, rfl, hl2, hc2⟩ := h2
  by_cases hne : xs.length = ys.length
  · have hcmp : ((ys.length : Int) != (ys.length : Int)) = false := by simp
    rw [hne] at hl
    have HNE := Lib.hid hne; clear hne
    have HC := Lib.hid hc; clear hc
    have HC2 := Lib.hid hc2; clear hc2
    rw [HNE.out]
    go_enter func46, Try.ntmps46
    go_wp2
    go_loopw [5] (fun i wr => ∃ k : Nat, k ≤ ys.length ∧ i = .int .i64 k ∧ Hid (∀ j, j < k → xs.getD j 0 = ys.getD j 0) ∧ Below w.heap.size w wr) (fun i _ => ys.length - (intOf i).toNat)
    case atStart => exact ⟨0, Nat.zero_le _, rfl, fun j hj => absurd hj (by omega), Below.refl _ _⟩
    case round =>
      obtain ⟨k, hk, rfl, hall, hbel⟩ := hrel
      by_cases hlt : k < ys.length
      · obtain ⟨b, off, rfl, hb, hcell⟩ := HC.out k (by rw [HNE.out]; exact hlt)
        obtain ⟨b2, off2, rfl, hb2, hcell2⟩ := HC2.out k hlt
        have c1 : wr.cell? ⟨b, off + k, none⟩ = some (.int .i64 (xs.getD k 0)) := (hbel.cell (p := ⟨b, off + k, none⟩) hb).trans (hcell k (by rw [HNE.out]; exact hlt))
        have c2 : wr.cell? ⟨b2, off2 + k, none⟩ = some (.int .i64 (ys.getD k 0)) := (hbel.cell (p := ⟨b2, off2 + k, none⟩) hb2).trans (hcell2 k hlt)
        clear hcell hcell2 hb hb2
        obtain ⟨x, hx⟩ : ∃ x, x = xs.getD k 0 := ⟨_, rfl⟩
        obtain ⟨y, hy⟩ : ∃ y, y = ys.getD k 0 := ⟨_, rfl⟩
        rw [← hx] at c1
        rw [← hy] at c2
        have HX := Lib.hid hx; clear hx
        have HY := Lib.hid hy; clear hy
        by_cases hxy : x = y
        · subst hxy
          go_wp2
          go_quiet (fail)
          go_wp2
          go_roundw
          case rel =>
            refine ⟨k + 1, by omega, by go_num, fun j hj => ?_, below_quiet hbel⟩
            by_cases hjk : j = k
            · rw [hjk, ← HX.out, ← HY.out]
            exact hall.out j (by omega)
          case measure => simp [intOf]; omega
        have hb1 : (x != y) = true := by simpa using hxy
        have hfin : decide (xs = ys) = false := by
          rw [decide_eq_false_iff_not]
          exact list_ne_at (k := k) (by rw [HNE.out]; exact hlt) (by rw [← HX.out, ← HY.out]; exact hxy)
        have HF := Lib.hid hfin; clear hfin hxy
        go_wp2
        go_quiet (fail)
        go_wp2
        go_ret
        rw [HF.out]
        exact ⟨rfl, below_quiet hbel⟩
      have hfin : decide (xs = ys) = true := by
        rw [decide_eq_true_iff]
        exact list_eq_all HNE.out (fun j hj => hall.out j (by have := HNE.out; omega))
      have HF := Lib.hid hfin; clear hfin
      go_wp2
      go_ret
      rw [HF.out]
      exact ⟨rfl, hbel⟩
  have hfin : decide (xs = ys) = false := by
    rw [decide_eq_false_iff_not]
    exact fun e => hne (by rw [e])
  have hb1 : ((xs.length : Int) != (ys.length : Int)) = true := by
    rw [bne_iff_ne]; omega
  have HF := Lib.hid hfin; clear hfin hne hc hc2
  go_enter func46, Try.ntmps46
  go_wp2
  go_ret
  rw [HF.out]
  exact ⟨rfl, Below.refl _ _⟩
theorem like_refl_any (w : World) (v1 v2 : Value) (xs : List Int) (h1 : Rd w v1 xs) (h2 : Rd w v2 xs) :
    Calls Try.prog 46 #[v1, v2] w (RetB w true) := by
  have := like_any w v1 v2 xs xs h1 h2
  simpa using this
theorem cells8 : Try.prog.cellsOf 5 = 1 := by kernel_rfl
theorem open_inb {H : Type} {enc : TypeId × Value → H} {w : World} {v : Value} {d : DataW H} {ps : List MemPlace} {base : Nat}
    (hv : Value.okWide Try.prog w .any base 22 v) (h : DataW.Trod enc Try.prog w 0 (fun _ => true) true 22 v d ps) : InB w v := by
  obtain ⟨a0, len, cap, rfl⟩ := okWide_slice underlying22 hv
  obtain ⟨fuel, hf⟩ := h
  rcases open_ints underlying22 underlying5 cells8 hf with ⟨hcs, _⟩ | ⟨a, len', cap', zs, hcs, _, hl, hm, hz, _, hcell, hwz⟩
  · simp [Value.cells] at hcs
    obtain ⟨rfl, rfl, rfl⟩ := hcs
    exact ⟨none, 0, 0, rfl, by omega, fun j hj => absurd hj (Nat.not_lt_zero _)⟩
  simp [Value.cells] at hcs
  obtain ⟨rfl, rfl, rfl⟩ := hcs
  simp only [if_true] at hz
  refine ⟨some a, len, cap, rfl, by unfold maxLen at hm; omega, fun j hj => ?_⟩
  obtain ⟨b, off, spot⟩ := a
  have hspot : spot = none := by simpa [Addr.add] using World.cell?_spot (hcell 0 (by omega))
  subst hspot
  refine ⟨b, off, rfl, World.block_lt_of_cell? w _ (by simpa using hcell 0 (by omega)), fun i hi => ?_⟩
  have hh := hcell i (by omega)
  rw [Addr.add_lit] at hh
  have hw := hwz (zs.getD i 0) (by rw [List.getD_eq_getElem?_getD, List.getElem?_eq_getElem (by omega)]; exact List.getElem_mem _)
  refine ⟨_, hh, ?_⟩
  have hw2 : IntKind.u8.min ≤ zs.getD i 0 ∧ zs.getD i 0 ≤ IntKind.u8.max := by simpa [Lit.wf] using hw
  have m1 : IntKind.u8.min = 0 := by decide
  have m2 : IntKind.u8.max = 255 := by decide
  omega
end Go.Proofs.Ytbiplocgenppoaa
