import Derived.Test.YtpfcfhjpgngneacP4
import Derived.Test.YtpfcfhjpgngneacP27
import Derived.Test.YtpfcfhjpgngneacP12
import Derived.Test.YtpfcfhjpgngneacP5
import Derived.Test.YtpfcfhjpgngneacP10
set_option linter.unusedSimpArgs false
set_option linter.unusedVariables false
set_option linter.unusedSectionVars false
namespace Go.Proofs.Ytpfcfhjpgngneac
open Go.RowKit
theorem star_rdC {F : List Itm} {w : World} {S : Nat → Prop} {c : Cat} {vs vt ve vm : Value} {us : List Value} (a b d g : Nat) (h1 : F[a]? = some (own1I vs c.s)) (h2 : F[b]? = some (own1I vt c.t)) (h3 : F[d]? = some (own1I ve c.e)) (h4 : F[g]? = some (own2U vm us c.m)) (h : Star F w S) : RdC w (.agg #[.int .i64 c.ob, vs, vt, ve, vm]) c := by
 obtain ⟨S1, _, p1⟩ := star_get F h1 h
 obtain ⟨S2, _, p2⟩ := star_get F h2 h
 obtain ⟨S3, _, p3⟩ := star_get F h3 h
 obtain ⟨S4, _, p4⟩ := star_get F h4 h
 exact ⟨vs, vt, ve, vm, rfl, Own1.rd p1, Own1.rd p2, Own1.rd p3, Own2.rd (S := S4) ⟨us, p4⟩⟩
def RetMHV {α : Type} (w0 : World) (i : Itm) (F : List Itm) (P : Cat → α → Prop) (V : α → Value → Value) (e : Ending) (w' : World) : Prop := ∃ (c : Cat) (v : Value) (x : α), P c x ∧ e = .returned (V x v) ∧ Mem w0 w' [i, tailI F, heldI (fun w => RdC w v c)]
section
variable {w0 : World} {is : List Itm} {Q : Exit → Act → World → Prop} {o : Oper} {N : Nat} {e : Env} {d : Nat} {K : Act → World → Prop} {f : FuncId} {fn : Func} {ags : Array Operand} {ts : Array TypeId} {vs : List Value}
theorem go_callMHV {α : Type} {i : Itm} {F : List Itm} {P : Cat → α → Prop} {V : α → Value → Value} (hd : o.dst = some d) (hN : Nat.blt d N = true) (hop : o.op = .call { callee := .value (.func f), args := ags, argTypes := ts }) (hfn : Try.prog.funcs[f]? = some fn) (hb : fn.body.isNone = false) (hn : (fn.name == "runtime.NumGoroutine") = false)
  (hargs : evoL e ags.toList = some vs) (his : is = i :: F) (hc : ∀ w, Mem w0 w [i, tailI F] → Calls Try.prog f vs.toArray w (RetMHV w0 i F P V))
  (hk : ∀ (c : Cat) (x : α) (a1 a2 a3 a4 : Option Addr) (k1 k2 k3 k4 : Nat), P c x → GK w0 (is ++ [heldI fun w => RdC w (.agg #[.int .i64 c.ob, .slice a1 c.s.length k1, .slice a2 c.t.length k2, .slice a3 c.e.length k3, .slice a4 c.m.length k4]) c]) N K ((d, V x (.agg #[.int .i64 c.ob, .slice a1 c.s.length k1, .slice a2 c.t.length k2, .slice a3 c.e.length k3, .slice a4 c.m.length k4])) :: e)) : GO w0 is N o e Q K := by
 subst his
 intro w a M G
 refine go_call hd hN G hop hfn hb hn hargs (hc w (mem_tail_in (L := [i]) M)) fun e' w' hR => ?_
 obtain ⟨c, v, x, hP, rfl, M'⟩ := hR
 obtain ⟨a1, a2, a3, a4, k1, k2, k3, k4, rfl, _⟩ := (mem_held (n := 2) M' rfl).lists
 exact ⟨_, rfl, fun a G => hk c x a1 a2 a3 a4 k1 k2 k3 k4 hP w' a (mem_mid (J := [heldI fun w => RdC w _ c]) M') G⟩
theorem go_callMH {i : Itm} {F : List Itm} {P : Cat → Prop} (hd : o.dst = some d) (hN : Nat.blt d N = true) (hop : o.op = .call { callee := .value (.func f), args := ags, argTypes := ts }) (hfn : Try.prog.funcs[f]? = some fn) (hb : fn.body.isNone = false) (hn : (fn.name == "runtime.NumGoroutine") = false)
  (hargs : evoL e ags.toList = some vs) (his : is = i :: F) (hc : ∀ w, Mem w0 w [i, tailI F] → Calls Try.prog f vs.toArray w (RetMH w0 i F P))
  (hk : ∀ (c : Cat) (a1 a2 a3 a4 : Option Addr) (k1 k2 k3 k4 : Nat), P c → GK w0 (is ++ [heldI fun w => RdC w (.agg #[.int .i64 c.ob, .slice a1 c.s.length k1, .slice a2 c.t.length k2, .slice a3 c.e.length k3, .slice a4 c.m.length k4]) c]) N K ((d, .agg #[.int .i64 c.ob, .slice a1 c.s.length k1, .slice a2 c.t.length k2, .slice a3 c.e.length k3, .slice a4 c.m.length k4]) :: e)) : GO w0 is N o e Q K :=
 go_callMHV (α := Unit) (P := fun c _ => P c) (V := fun _ v => v) hd hN hop hfn hb hn hargs his (fun w M => (hc w M).mono fun e w1 h => by obtain ⟨c, v, hP, he, M'⟩ := h; exact ⟨c, v, (), hP, he, M'⟩) fun c _ => hk c
end
set_option maxHeartbeats 1000000 in
set_option maxRecDepth 100000 in
theorem specDraw_any (w0 w : World) (ca : Option Addr) (cl cc g : Nat) (F : List Itm) (hI : InB w0 (.slice ca cl cc)) (o a : Int) (ho : 1 ≤ o) (ha : 1 ≤ a) (M : Mem w0 w [srcI ca cl cc g, tailI F]) :
  Calls Try.prog 72 #[.pointer (some ⟨g, 0, none⟩), .int .i64 o, .int .i64 a] w (RetMH w0 (srcI ca cl cc g) F DrawP) := by
 go_enter Try.func72, Try.ntmps72
 refine gc_enterM M (N := 19) rfl (look_cons (k := 0) rfl (look_cons (k := 1) rfl (look_cons (k := 2) rfl (look_nil _)))) ?_
 clear M
 refine gc_sr fun K1 hK1 => ?_
 refine gop fun K3 hK3 => ?_
 refine go_alloc (z := (.agg #[.int .i64 0, .slice none 0 0, .slice none 0 0, .slice none 0 0, .slice none 0 0])) (cs := [.int .i64 0, .slice none 0 0, .slice none 0 0, .slice none 0 0, .slice none 0 0]) rfl rfl rfl (fun w => by kernel_rfl) rfl ?_
 intro B2
 refine hK3 _ _ ?_
 refine gnt (hK1 _ _ ?_)
 refine gc_sr fun K4 hK4 => ?_
 refine gm ?_
 refine gm ?_
 refine gm ?_
 refine gop fun K6 hK6 => ?_
 refine go_callMC (P := SomeP o a) rfl rfl rfl Try.func132 rfl (by decide) rfl rfl (fun w M => specSome_any _ w ca cl cc g _ hI o a ho ha M) ?_
 intro cz5 ca5 cb5 cc5 cd5 ce5 cf5 cg5 ch5 cu5 hsome
 refine hK6 _ _ ?_
 refine gop fun K8 hK8 => ?_
 refine go_alloc (z := (.agg #[.int .i64 0, .slice none 0 0, .slice none 0 0, .slice none 0 0, .slice none 0 0])) (cs := [.int .i64 0, .slice none 0 0, .slice none 0 0, .slice none 0 0, .slice none 0 0]) rfl rfl rfl (fun w => by kernel_rfl) rfl ?_
 intro B7
 refine hK8 _ _ ?_
 refine gop fun K9 hK9 => ?_
 refine go_storeS (n := 7) rfl rfl rfl rfl (by kernel_rfl) rfl rfl rfl ?_
 refine hK9 _ _ ?_
 refine gnt (hK4 _ _ ?_)
 refine gc_seq fun K10 hK10 => ?_
 refine gc_sr fun K11 hK11 => ?_
 refine gm ?_
 refine gop fun K13 hK13 => ?_
 refine go_srcNext (n := 0) rfl rfl rfl Try.func71 rfl (by decide) rfl hI rfl (by omega) ?_
 intro r12 hs12
 refine hK13 _ _ ?_
 refine gv (qt_eql rfl rfl rfl) ?_
 refine gnt (hK11 _ _ ?_)
 refine gc_cond rfl (fun hc0 => ?_) (fun hc0 => ?_)
 ·try simp only [sA] at hc0
  refine gc_sr fun K14 hK14 => ?_
  refine gm ?_
  refine gv (qts Try.underlying27 (n := 7)) ?_
  refine gop fun K16 hK16 => ?_
  refine go_callMH (P := DrawP) rfl rfl rfl Try.func133 rfl (by decide) rfl rfl (fun w M => specBend_any _ w ca cl cc g _ hI _ _ _ _ _ _ _ _ _ (fun w S h => star_rdC 2 3 4 5 rfl rfl rfl rfl h) hsome.1 M) ?_
  intro bz15 ba15 bb15 bc15 bd15 be15 bf15 bg15 bh15 hdraw
  refine hK16 _ _ ?_
  refine gop fun K17 hK17 => ?_
  refine go_storeS (n := 2) rfl rfl rfl rfl (by kernel_rfl) rfl rfl rfl ?_
  refine hK17 _ _ ?_
  refine gnt (hK14 _ _ ?_)
  refine gc_ret ?_
  refine gk_then_ret ?_
  refine ret_S (n := 2) rfl rfl Try.underlying27 rfl (by kernel_rfl) rfl (fun w M => ?_)
  exact ⟨_, _, hdraw, rfl, mem_take 3 (mem_pick (n := 2) (mem_pick (n := 2) (mem_pick (n := 8) (M) rfl) rfl) rfl)⟩
 ·try simp only [sA] at hc0
  refine gc_skip ?_
  refine gk_then (hK10 _ _ ?_)
  refine gc_sr fun K18 hK18 => ?_
  refine gv (qts Try.underlying27 (n := 7)) ?_
  refine gop fun K19 hK19 => ?_
  refine go_storeS (n := 2) rfl rfl rfl rfl (by kernel_rfl) rfl rfl rfl ?_
  refine hK19 _ _ ?_
  refine gnt (hK18 _ _ ?_)
  refine gc_ret ?_
  refine ret_S (n := 2) rfl rfl Try.underlying27 rfl (by kernel_rfl) rfl (fun w M => ?_)
  exact ⟨_, _, draw_of hsome.1, rfl, mem_packH [_, _] (mem_take 6 (mem_pick (n := 5) (mem_pick (n := 5) (mem_pick (n := 6) (mem_pick (n := 6) (mem_pick (n := 6) (mem_pick (n := 6) (M) rfl) rfl) rfl) rfl) rfl) rfl))⟩
end Go.Proofs.Ytpfcfhjpgngneac
set_option linter.unusedSimpArgs false
set_option linter.unusedVariables false
set_option linter.unusedSectionVars false
namespace Go.Proofs.Ytpfcfhjpgngneac
open Go.RowKit
def NumP (r : Int) : Prop := -9223372036854775808 ≤ r ∧ r ≤ 9223372036854775807
set_option maxHeartbeats 1000000 in
set_option maxRecDepth 100000 in
theorem specDraw5_any (w0 w : World) (ca : Option Addr) (cl cc g : Nat) (F : List Itm) (hI : InB w0 (.slice ca cl cc)) (M : Mem w0 w [srcI ca cl cc g, tailI F]) :
  Calls Try.prog 62 #[.pointer (some ⟨g, 0, none⟩)] w (RetMHV w0 (srcI ca cl cc g) F (fun c (x : Int) => DrawP c ∧ NumP x) (fun x v => .tuple #[v, .int .i64 x])) := by
 go_enter Try.func62, Try.ntmps62
 refine gc_enterM M (N := 23) rfl (look_cons (k := 0) rfl (look_nil _)) ?_
 clear M
 refine gc_sr fun K1 hK1 => ?_
 refine gop fun K3 hK3 => ?_
 refine go_alloc (z := (.agg #[.int .i64 0, .slice none 0 0, .slice none 0 0, .slice none 0 0, .slice none 0 0])) (cs := [.int .i64 0, .slice none 0 0, .slice none 0 0, .slice none 0 0, .slice none 0 0]) rfl rfl rfl (fun w => by kernel_rfl) rfl ?_
 intro B2
 refine hK3 _ _ ?_
 refine gas ?_
 refine gnt (hK1 _ _ ?_)
 refine gc_sr fun K4 hK4 => ?_
 refine gm ?_
 refine gop fun K6 hK6 => ?_
 refine go_callMH (P := DrawP) rfl rfl rfl Try.func72 rfl (by decide) rfl rfl (fun w M => specDraw_any _ w ca cl cc g _ hI _ _ (by decide) (by decide) M) ?_
 intro cz5 ca5 cb5 cc5 cd5 ce5 cf5 cg5 ch5 hdraw
 refine hK6 _ _ ?_
 refine gop fun K8 hK8 => ?_
 refine go_alloc (z := (.agg #[.int .i64 0, .slice none 0 0, .slice none 0 0, .slice none 0 0, .slice none 0 0])) (cs := [.int .i64 0, .slice none 0 0, .slice none 0 0, .slice none 0 0, .slice none 0 0]) rfl rfl rfl (fun w => by kernel_rfl) rfl ?_
 intro B7
 refine hK8 _ _ ?_
 refine gop fun K9 hK9 => ?_
 refine go_storeS (n := 4) rfl rfl rfl rfl (by kernel_rfl) rfl rfl rfl ?_
 refine hK9 _ _ ?_
 refine gnt (hK4 _ _ ?_)
 refine gc_seq fun K10 hK10 => ?_
 have hdd := hdraw; obtain ⟨q1, q2, q3, q4, q5, q6⟩ := hdd
 refine gc_region ?_
 refine gv (qtf Try.underlying27 (z := 0) (off := 1)) ?_
 refine gv (qtl Try.underlying24 (n := 4)) ?_
 refine gv (qln (fun w M => lenV_rd (RdC.l1 (mem_held (n := 3) M rfl)))) ?_
 refine gas ?_
 refine gnt (hK10 _ _ ?_)
 refine gc_seq fun K11 hK11 => ?_
 refine gc_sr fun K12 hK12 => ?_
 refine gm ?_
 refine gop fun K14 hK14 => ?_
 refine go_srcNext (n := 0) rfl rfl rfl Try.func71 rfl (by decide) rfl hI rfl (by omega) ?_
 intro r13 hs13
 refine hK14 _ _ ?_
 refine gv (qt_eql rfl rfl rfl) ?_
 refine gnt (hK12 _ _ ?_)
 refine gc_cond rfl (fun hc0 => ?_) (fun hc0 => ?_)
 ·try simp only [sA] at hc0
  refine gc_seq fun K15 hK15 => ?_
  try simp only [sL]
  refine ga_start _ (fun w M => mem_erase 0 (mem_erase 2 (M))) ?_
  refine gav 0 rfl (qts Try.underlying27 (n := 2)) ?_
  refine gav 1 rfl (qt_move rfl rfl) ?_
  refine gav 2 rfl (qt_move rfl rfl) ?_
  refine gao 3 fun K17 hK17 => ?_
  refine go_slice4I rfl rfl rfl rfl rfl rfl rfl Try.underlying24 ?_
  intro B16
  refine hK17 _ _ (fun w M => (mem_erase 0 (mem_erase 2 (mem_take 5 M)) :)) ?_
  refine gao 4 fun K19 hK19 => ?_
  refine go_srcPick (n := 0) (m := 5) rfl rfl rfl Try.func123 rfl (by decide) rfl hI rfl rfl (by decide) (by simp) ?_
  intro r18 hs18; simp only [List.mem_cons, List.not_mem_nil, or_false] at hs18
  refine hK19 _ _ (fun w M => (mem_erase 0 (mem_erase 2 (mem_take 5 M)) :)) ?_
  refine gao 5 fun K20 hK20 => ?_
  refine go_storeS (n := 2) rfl rfl rfl rfl (by kernel_rfl) rfl rfl rfl ?_
  refine hK20 _ _ (fun w M => (mem_erase 0 (mem_erase 2 (mem_take 5 M)) :)) ?_
  refine gav 6 rfl (qt_assign rfl rfl) ?_
  refine ga_done (by kernel_rfl) ?_
  refine gk_then (hK15 _ _ ?_)
  refine gc_ret ?_
  refine gk_then_ret ?_
  refine ret_SI (n := 2) rfl rfl rfl Try.underlying27 rfl (by kernel_rfl) rfl (fun w M => ?_)
  exact ⟨_, _, _, ⟨hdraw, by omega, by omega⟩, rfl, mem_take 3 (mem_pick (n := 2) (mem_pick (n := 2) (mem_pick (n := 3) (M) rfl) rfl) rfl)⟩
 ·try simp only [sA] at hc0
  refine gc_skip ?_
  refine gk_then (hK11 _ _ ?_)
  refine gc_seq fun K21 hK21 => ?_
  try simp only [sL]
  refine ga_start _ (fun w M => mem_erase 0 (mem_erase 2 (M))) ?_
  refine gav 0 rfl (qts Try.underlying27 (n := 2)) ?_
  refine gav 1 rfl (qt_move rfl rfl) ?_
  refine gav 2 rfl (qt_move rfl rfl) ?_
  refine gao 3 fun K23 hK23 => ?_
  refine go_srcNext (n := 0) rfl rfl rfl Try.func71 rfl (by decide) rfl hI rfl (by omega) ?_
  intro r22 hs22
  refine hK23 _ _ (fun w M => (mem_erase 0 (mem_erase 2 (mem_take 5 M)) :)) ?_
  refine gao 4 fun K24 hK24 => ?_
  refine go_storeS (n := 2) rfl rfl rfl rfl (by kernel_rfl) rfl rfl rfl ?_
  refine hK24 _ _ (fun w M => (mem_erase 0 (mem_erase 2 (mem_take 5 M)) :)) ?_
  refine gav 5 rfl (qt_assign rfl rfl) ?_
  refine ga_done (by kernel_rfl) ?_
  refine gk_then (hK21 _ _ ?_)
  refine gc_ret ?_
  refine ret_SI (n := 2) rfl rfl rfl Try.underlying27 rfl (by kernel_rfl) rfl (fun w M => ?_)
  exact ⟨_, _, _, ⟨hdraw, by omega, by omega⟩, rfl, mem_take 3 (mem_pick (n := 2) (mem_pick (n := 2) (mem_pick (n := 3) (M) rfl) rfl) rfl)⟩
end Go.Proofs.Ytpfcfhjpgngneac
set_option linter.unusedSimpArgs false
set_option linter.unusedVariables false
set_option linter.unusedSectionVars false
namespace Go.Proofs.Ytpfcfhjpgngneac
open Go.RowKit
def RetHV {α : Type} (W : World) (P : Cat → α → Prop) (V : α → Value → Value) (e : Ending) (w' : World) : Prop := ∃ (c : Cat) (v : Value) (x : α), P c x ∧ e = .returned (V x v) ∧ Below W.heap.size W w' ∧ (heldI fun w => RdC w v c).p w' (fun k => W.heap.size ≤ k)
theorem mem_heldP {w0 w : World} {is : List Itm} {n : Nat} {φ : World → Prop} (M : Mem w0 w is) (h : is[n]? = some (heldI φ)) : (heldI φ).p w (fun k => w0.heap.size ≤ k) := by
 obtain ⟨S, hS, hb⟩ := mem_get M h
 exact (held_loc φ).keep (fun k _ hk => hS k hk) agree_refl hb
section
variable {w0 : World} {is : List Itm} {Q : Exit → Act → World → Prop} {o : Oper} {N : Nat} {e : Env} {d : Nat} {K : Act → World → Prop} {f : FuncId} {fn : Func} {ags : Array Operand} {ts : Array TypeId} {vs : List Value}
theorem go_callHV {α : Type} {P : Cat → α → Prop} {V : α → Value → Value} (hd : o.dst = some d) (hN : Nat.blt d N = true) (hop : o.op = .call { callee := .value (.func f), args := ags, argTypes := ts }) (hfn : Try.prog.funcs[f]? = some fn) (hb : fn.body.isNone = false) (hn : (fn.name == "runtime.NumGoroutine") = false)
  (hargs : evoL e ags.toList = some vs) (hc : ∀ w, Mem w0 w is → Calls Try.prog f vs.toArray w (RetHV w P V))
  (hk : ∀ (c : Cat) (x : α) (a1 a2 a3 a4 : Option Addr) (k1 k2 k3 k4 : Nat), P c x → GK w0 (is ++ [heldI fun w => RdC w (.agg #[.int .i64 c.ob, .slice a1 c.s.length k1, .slice a2 c.t.length k2, .slice a3 c.e.length k3, .slice a4 c.m.length k4]) c]) N K ((d, V x (.agg #[.int .i64 c.ob, .slice a1 c.s.length k1, .slice a2 c.t.length k2, .slice a3 c.e.length k3, .slice a4 c.m.length k4])) :: e)) : GO w0 is N o e Q K := by
 intro w a M G
 refine go_call hd hN G hop hfn hb hn hargs (hc w M) fun e' w' hR => ?_
 obtain ⟨c, v, x, hP, rfl, hbl, hp⟩ := hR
 obtain ⟨a1, a2, a3, a4, k1, k2, k3, k4, rfl, _⟩ := ((hp : ∀ w2, Agree _ w' w2 → RdC w2 v c) w' agree_refl).lists
 exact ⟨_, rfl, fun a G => hk c x a1 a2 a3 a4 k1 k2 k3 k4 hP w' a (mem_new M hbl hp) G⟩
end
end Go.Proofs.Ytpfcfhjpgngneac
set_option linter.unusedSimpArgs false
set_option linter.unusedVariables false
set_option linter.unusedSectionVars false
namespace Go.Proofs.Ytpfcfhjpgngneac
open Go.RowKit
set_option maxHeartbeats 1000000 in
set_option maxRecDepth 100000 in
theorem drawPowerCycle_any (w : World) (ca : Option Addr) (clen ccap : Nat) (h : InB w (.slice ca clen ccap)) :
    Calls Try.prog 18 #[.slice ca clen ccap] w (RetHV w (fun c (x : Int) => DrawP c ∧ NumP x) (fun x v => .tuple #[v, .int .i64 x])) := by
  go_enter Try.func18, Try.ntmps18
  refine gc_enter (N := 23) rfl (look_cons (k := 0) rfl (look_nil _)) ?_
  refine gc_seq fun K1 hK1 => ?_
  refine gc_region ?_
  refine g_op (.free rfl) fun K3 hK3 => ?_
  refine go_alloc (z := (.agg #[.int .i64 0, .slice none 0 0, .slice none 0 0, .slice none 0 0, .slice none 0 0])) (cs := [.int .i64 0, .slice none 0 0, .slice none 0 0, .slice none 0 0, .slice none 0 0]) rfl rfl rfl (fun w => by kernel_rfl) rfl ?_
  intro B2
  refine hK3 _ _ ?_
  refine g_v (.free rfl) rfl rfl (qt_assign rfl rfl) ?_
  refine g_nil ?_
  refine gk_then (hK1 _ _ ?_)
  refine gc_seq fun K4 hK4 => ?_
  refine gc_region ?_
  refine g_v (.free rfl) rfl rfl (qt_move rfl rfl) ?_
  refine g_op (.free rfl) fun K6 hK6 => ?_
  refine go_srcFrom rfl rfl rfl Try.func63 rfl (by decide) rfl h ?_
  intro g; refine gk_pickL [1, 0] ?_
  refine hK6 _ _ ?_
  refine g_v (.free rfl) rfl rfl (qt_assign rfl rfl) ?_
  refine g_nil ?_
  refine gk_then (hK4 _ _ ?_)
  refine gc_seq fun K7 hK7 => ?_
  refine gc_seq fun K8 hK8 => ?_
  refine gc_region ?_
  refine g_v (.free rfl) rfl rfl (qt_move rfl rfl) ?_
  refine g_op (.free rfl) fun K10 hK10 => ?_
  refine go_srcNext (n := 0) rfl rfl rfl Try.func71 rfl (by decide) rfl h rfl (by omega) ?_
  intro r9 hs9
  refine hK10 _ _ ?_
  refine g_v (.free rfl) rfl rfl (qt_eql rfl rfl rfl) ?_
  refine g_nil ?_
  refine gk_then (hK8 _ _ ?_)
  refine gc_cond rfl (fun hc0 => ?_) (fun hc0 => ?_)
  · try simp only [decide_eq_true_eq, decide_eq_false_iff_not, Bool.not_eq_true', Bool.not_eq_false', Bool.not_eq_eq_eq_not, Bool.not_true, Bool.not_false, ne_eq, Decidable.not_not, Classical.not_not] at hc0
    refine gc_seq fun K11 hK11 => ?_
    refine gc_region ?_
    refine g_v (.free rfl) rfl rfl (qt_move rfl rfl) ?_
    refine g_op (.free rfl) fun K13 hK13 => ?_
    refine go_callMH (P := DrawP) rfl rfl rfl Try.func72 rfl (by decide) rfl rfl (fun w M => specDraw_any _ w ca clen ccap g _ h _ _ (by decide) (by decide) M) ?_
    intro cz12 ca12 cb12 cc12 cd12 ce12 cf12 cg12 ch12 hdraw; have hdd := hdraw; obtain ⟨q1, q2, q3, q4, q5, q6⟩ := hdd
    refine hK13 _ _ ?_
    refine g_op (.free rfl) fun K15 hK15 => ?_
    refine go_alloc (z := (.agg #[.int .i64 0, .slice none 0 0, .slice none 0 0, .slice none 0 0, .slice none 0 0])) (cs := [.int .i64 0, .slice none 0 0, .slice none 0 0, .slice none 0 0, .slice none 0 0]) rfl rfl rfl (fun w => by kernel_rfl) rfl ?_
    intro B14
    refine hK15 _ _ ?_
    refine g_op (.free rfl) fun K16 hK16 => ?_
    refine go_storeS (n := 3) rfl rfl rfl rfl (by kernel_rfl) rfl rfl rfl ?_
    refine hK16 _ _ ?_
    refine g_nil ?_
    refine gk_then (hK11 _ _ ?_)
    refine gc_seq fun K17 hK17 => ?_
    try simp only [List.nil_append, List.cons_append, List.append_assoc, List.set_cons_succ, List.set_cons_zero]
    refine ga_start _ (fun w M => mem_erase 0 (mem_erase 1 (M))) ?_
    refine ga_v 0 rfl (by kernel_rfl) (by kernel_rfl) (by kernel_rfl) (.free rfl) rfl rfl (qt_loadS (n := 1) rfl rfl Try.underlying27 rfl (by kernel_rfl) rfl) (fun _ _ _ h => h) ?_
    refine ga_v 1 rfl (by kernel_rfl) (by kernel_rfl) (by kernel_rfl) (.free rfl) rfl rfl (qt_move rfl rfl) (fun _ _ _ h => h) ?_
    refine ga_v 2 rfl (by kernel_rfl) (by kernel_rfl) (by kernel_rfl) (.free rfl) rfl rfl (qt_field (z := 0) (off := 1) rfl rfl Try.underlying27 rfl (by kernel_rfl) rfl) (fun _ _ _ h => h) ?_
    refine ga_v 3 rfl (by kernel_rfl) (by kernel_rfl) (by kernel_rfl) (.free rfl) rfl rfl (qt_loadB (n := 1) rfl rfl Try.underlying24 rfl rfl rfl) (fun _ _ _ h => h) ?_
    refine ga_v 4 rfl (by kernel_rfl) (by kernel_rfl) (by kernel_rfl) (.free rfl) rfl rfl (qt_len rfl rfl ulE1 (fun w M => lenV_rd (RdC.l1 (mem_held (n := 0) M rfl)))) (fun _ _ _ h => h) ?_
    refine ga_op 5 (by kernel_rfl) rfl (.free rfl) fun K19 hK19 => ?_
    refine go_srcNext (n := 0) rfl rfl rfl Try.func71 rfl (by decide) rfl h rfl (by omega) ?_
    intro r18 hs18
    refine hK19 _ _ (fun w M => (mem_erase 0 (mem_erase 1 (mem_take 4 M)) :)) ?_
    refine ga_op 6 (by kernel_rfl) rfl (.free rfl) fun K20 hK20 => ?_
    refine go_storeS (n := 1) rfl rfl rfl rfl (by kernel_rfl) rfl rfl rfl ?_
    refine hK20 _ _ (fun w M => (mem_erase 0 (mem_erase 1 (mem_take 4 M)) :)) ?_
    refine ga_v 7 rfl (by kernel_rfl) (by kernel_rfl) (by kernel_rfl) (.free rfl) rfl rfl (qt_assign rfl rfl) (fun _ _ _ h => h) ?_
    refine ga_done (by kernel_rfl) ?_
    refine gk_then (hK17 _ _ ?_)
    refine gc_ret ?_
    refine gk_then_ret ?_
    refine ret_SI (n := 1) rfl rfl rfl Try.underlying27 rfl (by kernel_rfl) rfl (fun w M => ?_)
    first | exact ⟨_, _, _, hdraw, rfl, M.1, mem_heldP (n := 2) M rfl⟩ | exact ⟨_, _, _, ⟨hdraw, by constructor <;> omega⟩, rfl, M.1, mem_heldP (n := 2) M rfl⟩
  · try simp only [decide_eq_true_eq, decide_eq_false_iff_not, Bool.not_eq_true', Bool.not_eq_false', Bool.not_eq_eq_eq_not, Bool.not_true, Bool.not_false, ne_eq, Decidable.not_not, Classical.not_not] at hc0
    refine gc_skip ?_
    refine gk_then (hK7 _ _ ?_)
    refine gc_seq fun K21 hK21 => ?_
    refine gc_region ?_
    refine g_v (.free rfl) rfl rfl (qt_move rfl rfl) ?_
    refine g_op (.free rfl) fun K23 hK23 => ?_
    refine go_callMHV (α := Int) (P := fun c x => DrawP c ∧ NumP x) (V := fun x v => .tuple #[v, .int .i64 x]) rfl rfl rfl Try.func62 rfl (by decide) rfl rfl (fun w M => specDraw5_any _ w ca clen ccap g _ h M) ?_
    intro cz x ca1 cb1 cc1 cd1 ce1 cf1 cg1 ch1 hdraw
    refine hK23 _ _ ?_
    refine g_v (.free rfl) rfl rfl (qt_extract rfl rfl rfl) ?_
    refine g_v (.free rfl) rfl rfl (qt_extract rfl rfl rfl) ?_
    refine g_op (.free rfl) fun K24 hK24 => ?_
    refine go_storeS (n := 1) rfl rfl rfl rfl (by kernel_rfl) rfl rfl rfl ?_
    refine hK24 _ _ ?_
    refine g_v (.free rfl) rfl rfl (qt_assign rfl rfl) ?_
    refine g_nil ?_
    refine gk_then (hK21 _ _ ?_)
    refine gc_ret ?_
    refine ret_SI (n := 1) rfl rfl rfl Try.underlying27 rfl (by kernel_rfl) rfl (fun w M => ?_)
    first | exact ⟨_, _, _, hdraw, rfl, M.1, mem_heldP (n := 2) M rfl⟩ | exact ⟨_, _, _, ⟨hdraw, by constructor <;> omega⟩, rfl, M.1, mem_heldP (n := 2) M rfl⟩
end Go.Proofs.Ytpfcfhjpgngneac
set_option linter.unusedSimpArgs false
set_option linter.unusedVariables false
set_option linter.unusedSectionVars false
namespace Go.Proofs.Ytpfcfhjpgngneac
open Go.RowKit
end Go.Proofs.Ytpfcfhjpgngneac
set_option linter.unusedSimpArgs false
set_option linter.unusedVariables false
set_option linter.unusedSectionVars false
namespace Go.Proofs.Ytpfcfhjpgngneac
open Go.RowKit
def idemP (c : Cat) (e : Int) : Prop := c.th e e = e
noncomputable def fIsIdempotent (c : Cat) (f : Int) : Bool × Int := if arrErr c [f] = 0 then (bP (idemP c f), 0) else (false, arrErr c [f])
theorem IsIdempotent_e {c : Cat} {f : Int} (h : ¬ arrErr c [f] = 0) : fIsIdempotent c f = (false, arrErr c [f]) := if_neg h
theorem IsIdempotent_t {c : Cat} {f : Int} (h : arrErr c [f] = 0) : fIsIdempotent c f = (bP (idemP c f), 0) := if_pos h
end Go.Proofs.Ytpfcfhjpgngneac
set_option linter.unusedSimpArgs false
set_option linter.unusedVariables false
set_option linter.unusedSectionVars false
namespace Go.Proofs.Ytpfcfhjpgngneac
open Go.RowKit
theorem idxI_t {xs : List Int} {x : Int} {k : Nat} (hk : k < xs.length) (h : at0 xs k = x) (hno : ∀ j : Nat, j < k → ¬ at0 xs j = x) : idxI xs x = k := by
  rw [at0_nat] at h
  rw [idxI, if_pos (mem_of_getD hk h), idx_hit hk h fun j hj e => hno j hj (by rw [at0_nat]; exact e)]
theorem idxI_f {xs : List Int} {x : Int} (hno : ∀ j : Nat, j < xs.length → ¬ at0 xs j = x) : x ∉ xs := not_mem_of fun j hj e => hno j hj (by rw [at0_nat]; exact e)
theorem idxI_neg {xs : List Int} {x : Int} (h : x ∉ xs) : idxI xs x = -1 := by rw [idxI, if_neg h]
theorem idxI_0 {xs : List Int} {x : Int} : 0 ≤ idxI xs x ↔ x ∈ xs := by
  unfold idxI
  split
  · next h => exact ⟨fun _ => h, fun _ => by omega⟩
  · next h => exact ⟨fun h2 => by omega, fun h2 => absurd h2 h⟩
set_option maxHeartbeats 1000000 in
set_option maxRecDepth 100000 in
theorem libIndex2_any (w : World) (u : Value) (xs : List Int) (x : Int) (hu : Rd w u xs) :
    Calls Try.prog 179 #[u, .int .i64 x] w (RetI w (idxI xs x)) := by
  obtain ⟨ua, uc, rfl⟩ := rd_form hu
  have hux : xs.length ≤ 17592186044415 := by obtain ⟨_, _, _, hl, _⟩ := hu; exact hl
  go_enter Try.func179, Try.ntmps179
  refine gc_enter (N := 19) rfl (look_cons (k := 0) rfl (look_cons (k := 1) rfl (look_nil _))) ?_
  refine gc_seq fun K1 hK1 => ?_
  refine gc_region ?_
  refine g_v (.free rfl) rfl rfl (qt_assign rfl rfl) ?_
  refine g_nil ?_
  refine gk_then (hK1 _ _ ?_)
  refine gc_seq fun K2 hK2 => ?_
  refine gc_seq fun K3 hK3 => ?_
  refine gc_region ?_
  refine g_v (.free rfl) rfl rfl (qt_move rfl rfl) ?_
  refine g_v (.free rfl) rfl rfl (qt_len rfl rfl ulE1 (fun w M => lenV_rd hu)) ?_
  refine g_v (.free rfl) rfl rfl (qt_move rfl rfl) ?_
  refine g_nil ?_
  refine gk_then (hK3 _ _ ?_)
  refine gc_block ?_
  try simp only [List.nil_append, List.cons_append, List.append_assoc, List.set_cons_succ, List.set_cons_zero]
  refine gc_loop ([(0, _), (1, _), (7, _)] : Env) (fun s : Nat => (fun (k : Nat) => ([(8, .int .i64 (k : Int))] : Env)) s) (fun s : Nat => (fun (k : Nat) => ([] : List (Nat × Itm))) s) (fun s : Nat => (fun (k : Nat) => k ≤ xs.length ∧ ∀ j : Nat, j < k → ¬ at0 xs j = x) s) (fun s : Nat => (fun (k : Nat) => xs.length - k) s) (0) (sub_cons rfl (sub_cons rfl (sub_cons rfl (sub_cons rfl sub_nil)))) rfl ⟨Nat.zero_le _, fun f hf => absurd hf (by omega)⟩ ?_
  rintro k hinv KL4 hKL4
  simp only [updL, List.foldl_cons, List.foldl_nil, List.set_cons_succ, List.set_cons_zero, List.cons_append, List.nil_append] at hinv hKL4 ⊢
  obtain ⟨hk, hno⟩ := hinv
  refine gc_seq fun K5 hK5 => ?_
  refine gc_region ?_
  refine g_v (.free rfl) rfl rfl (qt_lss rfl rfl rfl) ?_
  refine g_nil ?_
  refine gk_then (hK5 _ _ ?_)
  refine gc_seq fun K6 hK6 => ?_
  refine gc_cond rfl (fun hc0 => ?_) (fun hc0 => ?_)
  · try simp only [decide_eq_true_eq, decide_eq_false_iff_not, Bool.not_eq_true', Bool.not_eq_false', Bool.not_eq_eq_eq_not, Bool.not_true, Bool.not_false, ne_eq, Decidable.not_not, Classical.not_not] at hc0
    refine gc_skip ?_
    refine gk_then (hK6 _ _ ?_)
    refine gc_seq fun K7 hK7 => ?_
    refine gc_block ?_
    refine gc_seq fun K8 hK8 => ?_
    refine gc_region ?_
    refine g_v (.free rfl) rfl rfl (qt_move rfl rfl) ?_
    refine g_v (.free rfl) rfl rfl (qt_assign rfl rfl) ?_
    refine g_nil ?_
    refine gk_then (hK8 _ _ ?_)
    refine gc_seq fun K9 hK9 => ?_
    refine gc_region ?_
    refine g_v (.free rfl) rfl rfl (qt_move rfl rfl) ?_
    refine g_v (.free rfl) rfl rfl (qt_move rfl rfl) ?_
    refine g_v (.free rfl) rfl rfl (qt_move rfl rfl) ?_
    refine g_v (.free rfl) rfl rfl (qt_index rfl rfl rfl ulE1 szE1 (fun w M => lenA_rd hu) (by omega) (by omega)) ?_
    refine g_v (.free rfl) rfl rfl (qt_load1 rfl rfl Try.underlying2 rfl (fun w M => mem_rd M hu) (by omega) (by omega)) ?_
    refine g_v (.free rfl) rfl rfl (qt_eql rfl rfl rfl) ?_
    refine g_nil ?_
    refine gk_then (hK9 _ _ ?_)
    refine gc_cond rfl (fun hc1 => ?_) (fun hc1 => ?_)
    · try simp only [decide_eq_true_eq, decide_eq_false_iff_not, Bool.not_eq_true', Bool.not_eq_false', Bool.not_eq_eq_eq_not, Bool.not_true, Bool.not_false, ne_eq, Decidable.not_not, Classical.not_not] at hc1
      refine gc_seq fun K10 hK10 => ?_
      refine gc_region ?_
      refine g_v (.free rfl) rfl rfl (qt_move rfl rfl) ?_
      refine g_v (.free rfl) rfl rfl (qt_assign rfl rfl) ?_
      refine g_nil ?_
      refine gk_then (hK10 _ _ ?_)
      refine gc_ret ?_
      refine gk_block_ret ?_
      refine gk_then_ret ?_
      refine gk_then_ret ?_
      refine gk_block_ret ?_
      refine gk_then_ret ?_
      refine ret_1 rfl rfl  (fun w M => ?_)
      rw [idxI_t (by omega) hc1.symm hno]; exact ⟨rfl, M.1⟩
    · try simp only [decide_eq_true_eq, decide_eq_false_iff_not, Bool.not_eq_true', Bool.not_eq_false', Bool.not_eq_eq_eq_not, Bool.not_true, Bool.not_false, ne_eq, Decidable.not_not, Classical.not_not] at hc1
      refine gc_skip ?_
      refine gk_block ?_
      refine gk_then (hK7 _ _ ?_)
      refine gc_region ?_
      refine g_v (.free rfl) rfl rfl (qt_add rfl rfl rfl (by omega)) ?_
      refine g_v (.free rfl) rfl rfl (qt_move rfl rfl) ?_
      refine g_nil ?_
      refine gk_then (gk_take 0 ?_)
      refine gk_sub ?hs_11 (hKL4 (k + 1) ?hi_11 ?hm_11)
      case hs_11 => exact (sub_cons rfl (sub_cons rfl (sub_cons rfl (sub_cons rfl sub_nil))))
      case hi_11 => exact ⟨by omega, all_next hno fun h => hc1 h.symm⟩
      case hm_11 => omega
  · try simp only [decide_eq_true_eq, decide_eq_false_iff_not, Bool.not_eq_true', Bool.not_eq_false', Bool.not_eq_eq_eq_not, Bool.not_true, Bool.not_false, ne_eq, Decidable.not_not, Classical.not_not] at hc0
    refine gc_exit ?_
    refine gk_then_exit ?_
    refine gk_then_exit ?_
    refine gk_block_hit ?_
    refine gk_then (hK2 _ _ ?_)
    refine gc_seq fun K12 hK12 => ?_
    refine gc_region ?_
    refine g_v (.free rfl) rfl rfl (qt_assign rfl rfl) ?_
    refine g_nil ?_
    refine gk_then (hK12 _ _ ?_)
    refine gc_ret ?_
    refine ret_1 rfl rfl  (fun w M => ?_)
    obtain rfl : k = xs.length := by omega
    rw [idxI_neg (idxI_f hno)]; exact ⟨rfl, M.1⟩
set_option maxHeartbeats 1000000 in
set_option maxRecDepth 100000 in
theorem placeIn_any (w : World) (u : Value) (xs : List Int) (x : Int) (hu : Rd w u xs) :
    Calls Try.prog 134 #[u, .int .i64 x] w (RetI w (idxI xs x)) := by
  obtain ⟨ua, uc, rfl⟩ := rd_form hu
  go_enter Try.func134, Try.ntmps134
  refine gc_enter (N := 8) rfl (look_cons (k := 0) rfl (look_cons (k := 1) rfl (look_nil _))) ?_
  refine gc_seq fun K1 hK1 => ?_
  refine gc_region ?_
  refine g_v (.free rfl) rfl rfl (qt_assign rfl rfl) ?_
  refine g_nil ?_
  refine gk_then (hK1 _ _ ?_)
  refine gc_seq fun K2 hK2 => ?_
  refine gc_region ?_
  refine g_v (.free rfl) rfl rfl (qt_move rfl rfl) ?_
  refine g_v (.free rfl) rfl rfl (qt_move rfl rfl) ?_
  refine g_q (.free rfl) rfl rfl (qt_call rfl Try.func179 rfl (by decide) rfl (fun w M => libIndex2_any w _ _ _ (mem_rd M hu))) ?_
  refine g_v (.free rfl) rfl rfl (qt_assign rfl rfl) ?_
  refine g_nil ?_
  refine gk_then (hK2 _ _ ?_)
  refine gc_ret ?_
  refine ret_1 rfl rfl  (fun w M => ?_)
  exact ⟨rfl, M.1⟩
end Go.Proofs.Ytpfcfhjpgngneac
set_option linter.unusedSimpArgs false
set_option linter.unusedVariables false
set_option linter.unusedSectionVars false
namespace Go.Proofs.Ytpfcfhjpgngneac
open Go.RowKit
def pw (c : Cat) (f : Int) : Nat → Int
  | 0 => f
  | k + 1 => c.th (pw c f k) f
def pwL (c : Cat) (f : Int) (k : Nat) : List Int := tabTo (pw c f) k
def cycP (c : Cat) (f : Int) (k : Nat) : Prop := pw c f (k + 1) ∈ pwL c f (k + 1)
noncomputable def stopP (c : Cat) (f : Int) : Nat := leastN (cycP c f)
noncomputable def cycA (c : Cat) (f : Int) : Int := idxI (pwL c f (stopP c f + 1)) (pw c f (stopP c f + 1)) + 1
noncomputable def cycB (c : Cat) (f : Int) : Int := ((stopP c f : Int) + 1) - idxI (pwL c f (stopP c f + 1)) (pw c f (stopP c f + 1))
theorem pwL_one (c : Cat) (f : Int) : pwL c f 1 = [f] := rfl
theorem pwL_len (c : Cat) (f : Int) (k : Nat) : (pwL c f k).length = k := tabTo_len _ _
theorem pwL_succ (c : Cat) (f : Int) (k : Nat) : pwL c f k ++ [pw c f k] = pwL c f (k + 1) := tabTo_succ _ _
theorem pwL_last (c : Cat) (f : Int) (k : Nat) : at0 (pwL c f (k + 1)) (k : Int) = pw c f k := tabTo_at _ (by omega)
theorem pw_in {c : Cat} (hS : ShapeP c) {f : Int} (f0 : 0 ≤ f) (f1 : f < c.s.length) (he : at0 c.s f = at0 c.t f) : ∀ k, 0 ≤ pw c f k ∧ pw c f k < c.s.length ∧ at0 c.s (pw c f k) = at0 c.s f ∧ at0 c.t (pw c f k) = at0 c.s f
  | 0 => ⟨f0, f1, rfl, he.symm⟩
  | k + 1 => by
    obtain ⟨h0, h1, h2, h3⟩ := pw_in hS f0 f1 he k
    have ht := th_ends hS h0 h1 f0 f1 h3
    exact ⟨ht.1.1, ht.1.2, ht.2.1.trans h2, ht.2.2.trans he.symm⟩
theorem nodup_le {m : Nat} {xs : List Int} (hn : xs.Nodup) (h : ∀ x ∈ xs, 0 ≤ x ∧ x < m) : xs.length ≤ m := by
  have hs : xs ⊆ tabTo (fun j => (j : Int)) m := fun x hx => by
    have := h x hx
    obtain ⟨j, rfl⟩ := Int.eq_ofNat_of_zero_le this.1
    exact List.mem_map.2 ⟨j, List.mem_range.2 (by omega), rfl⟩
  have := hn.length_le_of_subset hs
  rwa [tabTo_len] at this
theorem pwL_nodup {c : Cat} {f : Int} : ∀ {k : Nat}, (∀ j, j < k → ¬ cycP c f j) → (pwL c f (k + 1)).Nodup
  | 0, _ => by rw [pwL_one]; simp
  | k + 1, h => by
    have ih := pwL_nodup (c := c) (f := f) (k := k) fun j hj => h j (by omega)
    rw [← pwL_succ]
    refine List.nodup_append.2 ⟨ih, by simp, fun a ha b hb e => ?_⟩
    rw [List.mem_singleton] at hb
    rw [e, hb] at ha
    exact h k (by omega) ha
theorem pwL_bound {c : Cat} (hS : ShapeP c) {f : Int} (f0 : 0 ≤ f) (f1 : f < c.s.length) (he : at0 c.s f = at0 c.t f) {k : Nat} (h : ∀ j, j < k → ¬ cycP c f j) : k + 1 ≤ c.s.length := by
  have := nodup_le (m := c.s.length) (pwL_nodup h) fun x hx => by
    obtain ⟨j, _, rfl⟩ := List.mem_map.1 hx
    have := pw_in hS f0 f1 he j
    exact ⟨this.1, this.2.1⟩
  rwa [pwL_len] at this
theorem stop_eq {c : Cat} {f : Int} {k : Nat} (h : ∀ j, j < k → ¬ cycP c f j) (hk : cycP c f k) : stopP c f = k := by
  have := leastN_spec hk
  rcases Nat.lt_or_ge (stopP c f) k with h1 | h1
  · exact absurd this.1 (h _ h1)
  · exact Nat.le_antisymm this.2 h1
theorem cyc_eq {c : Cat} {f : Int} {k : Nat} (h : ∀ j, j < k → ¬ cycP c f j) (hk : cycP c f k) : cycA c f = idxI (pwL c f (k + 1)) (pw c f (k + 1)) + 1 ∧ cycB c f = ((k : Int) + 1) - idxI (pwL c f (k + 1)) (pw c f (k + 1)) := by
  unfold cycA cycB
  rw [stop_eq h hk]; exact ⟨rfl, rfl⟩
def RetIII (W : World) (a b d : Int) (e : Ending) (w' : World) : Prop := e = .returned (.tuple #[.int .i64 a, .int .i64 b, .int .i64 d]) ∧ Below W.heap.size W w'
noncomputable def fPowerCycle (c : Cat) (f : Int) : Int × Int × Int := if arrErr c [f] = 0 then (if at0 c.s f = at0 c.t f then (cycA c f, cycB c f, 0) else (0, 0, 5)) else (0, 0, arrErr c [f])
structure SepR (r : Int → Int → Prop) (n : Nat) (out : List (List Int)) : Prop where
  ne : ∀ i : Nat, i < out.length → row2 out (i : Int) ≠ []
  hd : ∀ i : Nat, i < out.length → ∀ x ∈ row2 out (i : Int), 0 ≤ x ∧ x < n
  sep : ∀ i j : Nat, i < j → j < out.length → ¬ (r (at0 (row2 out (i : Int)) 0) (at0 (row2 out (j : Int)) 0) ∧ r (at0 (row2 out (j : Int)) 0) (at0 (row2 out (i : Int)) 0))
end Go.Proofs.Ytpfcfhjpgngneac
set_option linter.unusedSimpArgs false
set_option linter.unusedVariables false
set_option linter.unusedSectionVars false
namespace Go.Proofs.Ytpfcfhjpgngneac
open Go.RowKit
set_option maxHeartbeats 1000000 in
set_option maxRecDepth 100000 in
theorem l05Arrow_any (w : World) (v : Value) (c : Cat) (f : Int) (h : RdC w v c) :
  Calls Try.prog 127 #[v, .int .i64 f] w (RetB w (bP (0 ≤ f ∧ f < c.s.length))) := by
 have h0 := h
 obtain ⟨va, vb, vc, vd, ve, vf, vg, vh, rfl, h1, h2, h3, h4, _⟩ := h.lists
 go_enter Try.func127, Try.ntmps127
 refine gc_enter (N := 14) rfl (look_cons (k := 0) rfl (look_cons (k := 1) rfl (look_nil _))) ?_
 refine gc_sr fun K1 hK1 => ?_
 refine gop fun K3 hK3 => ?_
 refine go_box rfl rfl rfl rfl rfl ?_
 intro B2
 refine hK3 _ _ ?_
 refine gas ?_
 refine gnt (hK1 _ _ ?_)
 refine gc_sr fun K4 hK4 => ?_
 refine gm ?_
 refine gv (qt_geq rfl rfl rfl) ?_
 refine g_splitv (.free rfl) rfl rfl (qt_move rfl rfl) (fun hs1_2 => ?_) (fun hs1_2 => ?_)
 ·try simp only [sA] at hs1_2
  refine gvh (qt_move rfl rfl) ?_
  refine gvh (qtf Try.underlying27 (z := 0) (off := 1)) ?_
  refine gvh (qtl Try.underlying24 (n := 0)) ?_
  refine gvh (qln (fun w M => lenV_rd h1)) ?_
  refine gvh (qt_lss rfl rfl rfl) ?_
  refine gv (qt_pick_t rfl rfl rfl) ?_
  refine gas ?_
  refine gnt (hK4 _ _ ?_)
  refine gc_ret ?_
  refine ret_1 rfl rfl  (fun w M => ?_)
  rw [bP_dec]; exact ⟨by first | rfl | (congr 2; simp; omega), M.1⟩
 ·try simp only [sA] at hs1_2
  refine gsk ?_
  refine gsk ?_
  refine gsk ?_
  refine gsk ?_
  refine gsk ?_
  refine gv (qt_pick_f rfl rfl rfl) ?_
  refine gas ?_
  refine gnt (hK4 _ _ ?_)
  refine gc_ret ?_
  refine ret_1 rfl rfl  (fun w M => ?_)
  rw [bP_f (by omega)]; exact ⟨rfl, M.1⟩
set_option maxHeartbeats 1000000 in
set_option maxRecDepth 100000 in
theorem l05Code_any (w : World) (v : Value) (c : Cat) (f : Int) (h : RdC w v c) :
  Calls Try.prog 66 #[v, .int .i64 f] w (RetI w (arrErr c [f])) := by
 have h0 := h
 obtain ⟨va, vb, vc, vd, ve, vf, vg, vh, rfl, h1, h2, h3, h4, _⟩ := h.lists
 go_enter Try.func66, Try.ntmps66
 refine gc_enter (N := 14) rfl (look_cons (k := 0) rfl (look_cons (k := 1) rfl (look_nil _))) ?_
 refine gc_sr fun K1 hK1 => ?_
 refine gop fun K3 hK3 => ?_
 refine go_box rfl rfl rfl rfl rfl ?_
 intro B2
 refine hK3 _ _ ?_
 refine gas ?_
 refine gnt (hK1 _ _ ?_)
 refine gc_seq fun K4 hK4 => ?_
 refine gc_block ?_
 refine gc_sr fun K5 hK5 => ?_
 refine gv (qts Try.underlying27 (n := 0)) ?_
 refine g_q (.free rfl) rfl rfl (qt_call rfl Try.func84 rfl (by decide) rfl (fun w M => specIs_any w _ _ (mem_rdC M h0))) ?_
 refine gv (qt_not rfl rfl) ?_
 refine gas ?_
 refine gnt (hK5 _ _ ?_)
 refine gc_cond rfl (fun hc0 => ?_) (fun hc0 => ?_)
 ·try simp only [sA] at hc0
  refine gc_sr fun K6 hK6 => ?_
  refine gas ?_
  refine gnt (hK6 _ _ ?_)
  refine gc_ret ?_
  refine gk_block_ret ?_
  refine gk_then_ret ?_
  refine ret_1 rfl rfl  (fun w M => ?_)
  rw [arrErr_f hc0]; exact ⟨rfl, M.1⟩
 ·try simp only [sA] at hc0
  refine gc_sr fun K7 hK7 => ?_
  refine gv (qts Try.underlying27 (n := 0)) ?_
  refine gm ?_
  refine g_q (.free rfl) rfl rfl (qt_call rfl Try.func127 rfl (by decide) rfl (fun w M => l05Arrow_any w _ _ _ (mem_rdC M h0))) ?_
  refine gv (qt_not rfl rfl) ?_
  refine gas ?_
  refine gnt (hK7 _ _ ?_)
  refine gc_cond rfl (fun hc1 => ?_) (fun hc1 => ?_)
  ·try simp only [sA] at hc1
   refine gc_sr fun K8 hK8 => ?_
   refine gas ?_
   refine gnt (hK8 _ _ ?_)
   refine gc_ret ?_
   refine gk_block_ret ?_
   refine gk_then_ret ?_
   refine ret_1 rfl rfl  (fun w M => ?_)
   rw [arrErr_r hc0 (fun h => bP_f' hc1 (allP_one.1 h))]; exact ⟨rfl, M.1⟩
  ·try simp only [sA] at hc1
   refine gc_skip ?_
   refine gk_block ?_
   refine gk_then (hK4 _ _ ?_)
   refine gc_sr fun K9 hK9 => ?_
   refine gas ?_
   refine gnt (hK9 _ _ ?_)
   refine gc_ret ?_
   refine ret_1 rfl rfl  (fun w M => ?_)
   rw [arrErr_t hc0 (allP_one.2 (bP_t' hc1))]; exact ⟨rfl, M.1⟩
end Go.Proofs.Ytpfcfhjpgngneac
set_option linter.unusedSimpArgs false
set_option linter.unusedVariables false
set_option linter.unusedSectionVars false
namespace Go.Proofs.Ytpfcfhjpgngneac
open Go.RowKit
end Go.Proofs.Ytpfcfhjpgngneac
set_option linter.unusedSimpArgs false
set_option linter.unusedVariables false
set_option linter.unusedSectionVars false
namespace Go.Proofs.Ytpfcfhjpgngneac
open Go.RowKit
end Go.Proofs.Ytpfcfhjpgngneac
set_option linter.unusedSimpArgs false
set_option linter.unusedVariables false
set_option linter.unusedSectionVars false
namespace Go.Proofs.Ytpfcfhjpgngneac
open Go.RowKit
set_option maxHeartbeats 1000000 in
set_option maxRecDepth 100000 in
theorem isIdem_any (w : World) (v : Value) (c : Cat) (f : Int) (h : RdC w v c) (hS : ShapeP c) (f0 : 0 ≤ f) (f1 : f < c.s.length) :
  Calls Try.prog 77 #[v, .int .i64 f] w (RetB w (bP (idemP c f))) := by
 have h0 := h
 obtain ⟨va, vb, vc, vd, ve, vf, vg, vh, rfl, h1, h2, h3, h4, _⟩ := h.lists
 have hn40 := hS.n40
 have hA := arrP hS f0 f1
 have a1 := hA.fs; have a2 := hA.ft; have a3 := hA.fm; have a4 := hA.row
 go_enter Try.func77, Try.ntmps77
 refine gc_enter (N := 11) rfl (look_cons (k := 0) rfl (look_cons (k := 1) rfl (look_nil _))) ?_
 refine gc_sr fun K1 hK1 => ?_
 refine gop fun K3 hK3 => ?_
 refine go_box rfl rfl rfl rfl rfl ?_
 intro B2
 refine hK3 _ _ ?_
 refine gas ?_
 refine gnt (hK1 _ _ ?_)
 refine gc_sr fun K4 hK4 => ?_
 refine gv (qts Try.underlying27 (n := 0)) ?_
 refine gm ?_
 refine gm ?_
 refine g_q (.free rfl) rfl rfl (qt_call rfl Try.func75 rfl (by decide) rfl (fun w M => then_any w _ _ _ _ (mem_rdC M h0) (by first | assumption | omega) (by first | assumption | omega) (by first | assumption | omega) (by first | assumption | omega))) ?_
 refine gm ?_
 refine gv (qt_eql rfl rfl rfl) ?_
 refine gas ?_
 refine gnt (hK4 _ _ ?_)
 refine gc_ret ?_
 refine ret_1 rfl rfl  (fun w M => ?_)
 rw [← bP_dec]; exact ⟨rfl, M.1⟩
def ArrB (c : Cat) (f : Int) (g : Value) (b : Bool) : Prop := ∀ (w : World) (v : Value), RdC w v c → IsCat c → 0 ≤ f → f < c.s.length → CallsV g [v, .int .i64 f] w (RetB w b)
set_option maxHeartbeats 1000000 in
set_option maxRecDepth 100000 in
theorem askB_any (w : World) (v : Value) (c : Cat) (f : Int) (h : RdC w v c) (g : Value) (b : Bool) (hg : ArrB c f g b) :
  Calls Try.prog 76 #[v, .int .i64 f, g] w (RetBI w (bif decide (arrErr c [f] = 0) then b else false) (arrErr c [f])) := by
 have h0 := h
 obtain ⟨va, vb, vc, vd, ve, vf, vg, vh, rfl, h1, h2, h3, h4, _⟩ := h.lists
 go_enter Try.func76, Try.ntmps76
 refine gc_enter (N := 26) rfl (look_cons (k := 0) rfl (look_cons (k := 1) rfl (look_cons (k := 2) rfl (look_nil _)))) ?_
 refine gc_sr fun K1 hK1 => ?_
 refine gop fun K3 hK3 => ?_
 refine go_box rfl rfl rfl rfl rfl ?_
 intro B2
 refine hK3 _ _ ?_
 refine gas ?_
 refine gas ?_
 refine gnt (hK1 _ _ ?_)
 refine gc_sr fun K4 hK4 => ?_
 refine gv (qts Try.underlying27 (n := 0)) ?_
 refine gm ?_
 refine gop fun K6 hK6 => ?_
 refine go_slice1 rfl rfl rfl rfl Try.underlying24 ?_
 intro B5
 refine hK6 _ _ ?_
 refine gop fun K8 hK8 => ?_
 refine go_callCI rfl rfl rfl Try.func64 rfl (by decide) rfl (fun w M => readArrows_any w _ _ _ _ (mem_rdC M h0) ((mem_own1 (n := 1) M rfl).rd)) ?_
 intro ca7 cb7 cc7 cd7 ce7 cf7 cg7 ch7 cu7
 refine hK8 _ _ ?_
 refine gm ?_
 refine gv (qt_extract rfl rfl rfl) ?_
 refine gv (qt_extract rfl rfl rfl) ?_
 refine gop fun K10 hK10 => ?_
 refine go_alloc (z := (.agg #[.int .i64 0, .slice none 0 0, .slice none 0 0, .slice none 0 0, .slice none 0 0])) (cs := [.int .i64 0, .slice none 0 0, .slice none 0 0, .slice none 0 0, .slice none 0 0]) rfl rfl rfl (fun w => by kernel_rfl) rfl ?_
 intro B9
 refine hK10 _ _ ?_
 refine gop fun K11 hK11 => ?_
 refine go_storeS (n := 6) rfl rfl rfl rfl (by kernel_rfl) rfl rfl rfl ?_
 refine hK11 _ _ ?_
 refine gas ?_
 refine gnt (hK4 _ _ ?_)
 refine gc_seq fun K12 hK12 => ?_
 refine gc_sr fun K13 hK13 => ?_
 refine gm ?_
 refine gv (qt_neq rfl rfl rfl) ?_
 refine gnt (hK13 _ _ ?_)
 refine gc_cond rfl (fun hc0 => ?_) (fun hc0 => ?_)
 ·try simp only [sA] at hc0
  refine gc_sr fun K14 hK14 => ?_
  refine gas ?_
  refine gnt (hK14 _ _ ?_)
  refine gc_sr fun K15 hK15 => ?_
  refine gm ?_
  refine gm ?_
  refine gas ?_
  refine gas ?_
  refine gnt (hK15 _ _ ?_)
  refine gc_ret ?_
  refine gk_then_ret ?_
  refine ret_2 rfl rfl rfl  (fun w M => ?_)
  rw [decide_eq_false hc0]; exact ⟨rfl, M.1⟩
 ·try simp only [sA] at hc0
  refine gc_skip ?_
  refine gk_then (hK12 _ _ ?_)
  refine gc_seq fun K16 hK16 => ?_
  have hE := arrErr_0 hc0
  have hC := hE.1
  have hS := hC.toShapeP
  have hf := allP_one.1 hE.2
  have f0 := hf.1; have f1 := hf.2
  simp only [arrCat_t hc0]
  refine gc_region ?_
  refine gm ?_
  refine gv (qts Try.underlying27 (n := 6)) ?_
  refine gm ?_
  refine g_q (.free rfl) rfl rfl (qt_callV rfl rfl rfl (fun w M => hg w _ (rdC_mk ((mem_own1 (n := 2) M rfl).rd) ((mem_own1 (n := 3) M rfl).rd) ((mem_own1 (n := 4) M rfl).rd) (mem_rdU (n := 5) M rfl)) hC f0 f1)) ?_
  refine gas ?_
  refine gas ?_
  refine gnt (hK16 _ _ ?_)
  refine gc_ret ?_
  refine ret_2 rfl rfl rfl  (fun w M => ?_)
  rw [decide_eq_true hc0, hc0]; exact ⟨rfl, M.1⟩
theorem IsIdempotent_v (c : Cat) (f : Int) : (bif decide (arrErr c [f] = 0) then bP (idemP c f) else false) = (fIsIdempotent c f).1 ∧ arrErr c [f] = (fIsIdempotent c f).2 := by
 by_cases h : arrErr c [f] = 0
 ·rw [IsIdempotent_t h, decide_eq_true h]; exact ⟨rfl, h⟩
 ·rw [IsIdempotent_e h, decide_eq_false h]; exact ⟨rfl, rfl⟩
set_option maxHeartbeats 1000000 in
set_option maxRecDepth 100000 in
theorem impl_IsIdempotent (w : World) (v : Value) (c : Cat) (f : Int) (h : RdC w v c) :
  Calls Try.prog 23 #[v, .int .i64 f] w (RetBI w (fIsIdempotent c f).1 (fIsIdempotent c f).2) := by
 have h0 := h
 obtain ⟨va, vb, vc, vd, ve, vf, vg, vh, rfl, h1, h2, h3, h4, _⟩ := h.lists
 go_enter Try.func23, Try.ntmps23
 refine gc_enter (N := 11) rfl (look_cons (k := 0) rfl (look_cons (k := 1) rfl (look_nil _))) ?_
 refine gc_sr fun K1 hK1 => ?_
 refine gop fun K3 hK3 => ?_
 refine go_box rfl rfl rfl rfl rfl ?_
 intro B2
 refine hK3 _ _ ?_
 refine gas ?_
 refine gas ?_
 refine gnt (hK1 _ _ ?_)
 refine gc_sr fun K4 hK4 => ?_
 refine gv (qts Try.underlying27 (n := 0)) ?_
 refine gm ?_
 refine g_q (.free rfl) rfl rfl (qt_call rfl Try.func76 rfl (by decide) rfl (fun w M => askB_any w _ _ _ (mem_rdC M h0) (_) (bP (idemP c f)) (fun w v h hC f0 f1 => callsV_f (bnd := []) (vs := [_, _]) (caps := []) Try.func77 rfl (by decide) (isIdem_any w v c f h hC.toShapeP f0 f1)))) ?_
 refine gv (qt_extract rfl rfl rfl) ?_
 refine gv (qt_extract rfl rfl rfl) ?_
 refine gas ?_
 refine gas ?_
 refine gnt (hK4 _ _ ?_)
 refine gc_ret ?_
 refine ret_2 rfl rfl rfl  (fun w M => ?_)
 rw [← (IsIdempotent_v c f).1, ← (IsIdempotent_v c f).2]; exact ⟨rfl, M.1⟩
end Go.Proofs.Ytpfcfhjpgngneac
