import Derived.Test.YtbiplocgenppoaaC4
import Derived.Test.YtbiplocgenppoaaC29
import Derived.Test.YtbiplocgenppoaaC13
import Derived.Test.YtbiplocgenppoaaC10
set_option maxHeartbeats 1000000
set_option maxRecDepth 100000
set_option linter.unusedSimpArgs false
set_option linter.unusedVariables false
set_option linter.unusedSectionVars false
namespace Go.Proofs.Ytbiplocgenppoaa
open _root_.Go.Proofs.Try
open Go.RowKit
theorem star_rdC {F : List Itm} {w : World} {S : Nat → Prop} {c : Cat} {vs vt ve vm : Value} {us : List Value} (a b d g : Nat) (h1 : F[a]? = some (own1I vs c.s)) (h2 : F[b]? = some (own1I vt c.t)) (h3 : F[d]? = some (own1I ve c.e)) (h4 : F[g]? = some (own2U vm us c.m)) (h : Star F w S) : RdC w (.agg #[.int .i64 c.ob, vs, vt, ve, vm]) c := by
 obtain ⟨S1, _, p1⟩ := star_get F h1 h
 obtain ⟨S2, _, p2⟩ := star_get F h2 h
 obtain ⟨S3, _, p3⟩ := star_get F h3 h
 obtain ⟨S4, _, p4⟩ := star_get F h4 h
 exact ⟨vs, vt, ve, vm, rfl, Own1.rd p1, Own1.rd p2, Own1.rd p3, Own2.rd (S := S4) ⟨us, p4⟩⟩
def RetMHV {α : Type} (w0 : World) (i : Itm) (F : List Itm) (P : Cat → α → Prop) (V : α → Value → Value) (e : Ending) (w' : World) : Prop := ∃ (c : Cat) (v : Value) (x : α), P c x ∧ e = .returned (V x v) ∧ Mem w0 w' [i, tailI F, heldI (fun w => RdC w v c)]
section
variable {w0 : World} {is : List Itm} {Q : Exit → Act → World → Prop} {o : Oper} {N : Frm} {e : Env} {d : Nat} {K : Act → World → Prop} {f : FuncId} {fn : Func} {ags : Array Operand} {ts : Array TypeId} {vs : List Value}
theorem go_callMHV {α : Type} {i : Itm} {F : List Itm} {P : Cat → α → Prop} {V : α → Value → Value} (hd : o.dst = some d) (hN : Nat.blt d N = true) (hop : o.op = .call { callee := .value (.func f), args := ags, argTypes := ts }) (hfn : Try.prog.funcs[f]? = some fn) (hb : fn.body.isNone = false) (hn : (fn.name == "runtime.NumGoroutine") = false)
  (hargs : evoL e ags.toList = some vs) (his : is = i :: F) (hc : ∀ w, Mem w0 w [i, tailI F] → Calls Try.prog f vs.toArray w (RetMHV w0 i F P V))
  (hk : ∀ (c : Cat) (x : α) (a1 a2 a3 a4 : Option Addr) (k1 k2 k3 k4 : Nat), P c x → GK w0 (is ++ [heldI fun w => RdC w (.agg #[.int .i64 c.ob, .slice a1 c.s.length k1, .slice a2 c.t.length k2, .slice a3 c.e.length k3, .slice a4 c.m.length k4]) c]) N K ((d, V x (.agg #[.int .i64 c.ob, .slice a1 c.s.length k1, .slice a2 c.t.length k2, .slice a3 c.e.length k3, .slice a4 c.m.length k4])) :: e)) : GO w0 is N o e Q K := by
 subst his
 intro w a M G
 refine go_call hd hN G hop hfn hb hn hargs (hc w (mem_tail_in (L := [i]) M)) fun e' w' hR => ?_
 obtain ⟨c, v, x, hP, rfl, M'⟩ := hR
 obtain ⟨a1, a2, a3, a4, k1, k2, k3, k4, rfl, _⟩ := (mem_held (n := 2) M' rfl).lists
 exact ⟨_, rfl, fun a G => hk c x a1 a2 a3 a4 k1 k2 k3 k4 hP w' a (mem_mid (J := [heldI fun w => RdC w _ c]) M') G⟩
theorem go_callMH {i : Itm} {F : List Itm} {P : Cat → Prop} (hd : o.dst = some d) (hN : Nat.blt d N = true) (hop : o.op = .call { callee := .value (.func f), args := ags, argTypes := ts }) (hfn : Try.prog.funcs[f]? = some fn) (hb : fn.body.isNone = false) (hn : (fn.name == "runtime.NumGoroutine") = false)
  (hargs : evoL e ags.toList = some vs) (his : is = i :: F) (hc : ∀ w, Mem w0 w [i, tailI F] → Calls Try.prog f vs.toArray w (RetMH w0 i F P))
  (hk : ∀ (c : Cat) (a1 a2 a3 a4 : Option Addr) (k1 k2 k3 k4 : Nat), P c → GK w0 (is ++ [heldI fun w => RdC w (.agg #[.int .i64 c.ob, .slice a1 c.s.length k1, .slice a2 c.t.length k2, .slice a3 c.e.length k3, .slice a4 c.m.length k4]) c]) N K ((d, .agg #[.int .i64 c.ob, .slice a1 c.s.length k1, .slice a2 c.t.length k2, .slice a3 c.e.length k3, .slice a4 c.m.length k4]) :: e)) : GO w0 is N o e Q K :=
 go_callMHV (α := Unit) (P := fun c _ => P c) (V := fun _ v => v) hd hN hop hfn hb hn hargs his (fun w M => (hc w M).mono fun e w1 h => by obtain ⟨c, v, hP, he, M'⟩ := h; exact ⟨c, v, (), hP, he, M'⟩) fun c _ => hk c
end
theorem specDraw_any (w0 w : World) (ca : Option Addr) (cl cc g : Nat) (F : List Itm) (hI : InB w0 (.slice ca cl cc)) (o a : Int) (ho : 1 ≤ o) (ha : 1 ≤ a) (M : Mem w0 w [srcI ca cl cc g, tailI F]) :
  Calls Try.prog 37 #[.pointer (some ⟨g, 0, none⟩), .int .i64 o, .int .i64 a] w (RetMH w0 (srcI ca cl cc g) F DrawP) := by
 go_enter func37, Try.ntmps37
 refine gc_enterM M (N := 19) rfl (look_cons (k := 0) rfl (look_cons (k := 1) rfl (look_cons (k := 2) rfl (look_nil _)))) ?_
 clear M
 refine gc_sr fun K1 hK1 => ?_
 refine gop fun K3 hK3 => ?_
 refine go_alloc (z := (.agg #[.int .i64 0, .slice none 0 0, .slice none 0 0, .slice none 0 0, .slice none 0 0])) (cs := [.int .i64 0, .slice none 0 0, .slice none 0 0, .slice none 0 0, .slice none 0 0]) rfl rfl rfl (fun w => by kernel_rfl) rfl ?_
 intro B2
 refine hK3 _ _ ?_
 refine gnt (hK1 _ _ ?_)
 refine gc_sr fun K4 hK4 => ?_
 refine gm ?_
 refine gm ?_
 refine gm ?_
 refine gop fun K6 hK6 => ?_
 refine go_callMC (P := SomeP o a) rfl rfl rfl func61 rfl (by decide) rfl rfl (fun w M => specSome_any _ w ca cl cc g _ hI o a ho ha M) ?_
 intro cz5 ca5 cb5 cc5 cd5 ce5 cf5 cg5 ch5 cu5 hsome
 refine hK6 _ _ ?_
 refine gop fun K8 hK8 => ?_
 refine go_alloc (z := (.agg #[.int .i64 0, .slice none 0 0, .slice none 0 0, .slice none 0 0, .slice none 0 0])) (cs := [.int .i64 0, .slice none 0 0, .slice none 0 0, .slice none 0 0, .slice none 0 0]) rfl rfl rfl (fun w => by kernel_rfl) rfl ?_
 intro B7
 refine hK8 _ _ ?_
 refine gop fun K9 hK9 => ?_
 refine go_storeS (n := 7) rfl rfl rfl rfl (by kernel_rfl) rfl rfl rfl ?_
 refine hK9 _ _ ?_
 refine gnt (hK4 _ _ ?_)
 refine gc_seq fun K10 hK10 => ?_
 refine gc_sr fun K11 hK11 => ?_
 refine gm ?_
 refine gop fun K13 hK13 => ?_
 refine go_srcNext (n := 0) rfl rfl rfl func51 rfl (by decide) rfl hI rfl (by omega) ?_
 intro r12 hs12
 refine hK13 _ _ ?_
 refine gv (qt_eql rfl rfl rfl) ?_
 refine gnt (hK11 _ _ ?_)
 refine gc_cond rfl (fun hc0 => ?_) (fun hc0 => ?_)
 ·try simp only [sA] at hc0
  refine gc_sr fun K14 hK14 => ?_
  refine gm ?_
  refine gv (qts underlying27 (n := 7)) ?_
  refine gop fun K16 hK16 => ?_
  refine go_callMH (P := DrawP) rfl rfl rfl func62 rfl (by decide) rfl rfl (fun w M => specBend_any _ w ca cl cc g _ hI _ _ _ _ _ _ _ _ _ (fun w S h => star_rdC 2 3 4 5 rfl rfl rfl rfl h) hsome.1 M) ?_
  intro bz15 ba15 bb15 bc15 bd15 be15 bf15 bg15 bh15 hdraw
  refine hK16 _ _ ?_
  refine gop fun K17 hK17 => ?_
  refine go_storeS (n := 2) rfl rfl rfl rfl (by kernel_rfl) rfl rfl rfl ?_
  refine hK17 _ _ ?_
  refine gnt (hK14 _ _ ?_)
  refine gc_ret ?_
  refine gk_then_ret ?_
  refine ret_S (n := 2) rfl rfl underlying27 rfl (by kernel_rfl) rfl (fun w M => ?_)
  exact ⟨_, _, hdraw, rfl, mem_take 3 (mem_pick (n := 2) (mem_pick (n := 2) (mem_pick (n := 8) (M) rfl) rfl) rfl)⟩
 try simp only [sA] at hc0
 refine gc_skip ?_
 refine gk_then (hK10 _ _ ?_)
 refine gc_sr fun K18 hK18 => ?_
 refine gv (qts underlying27 (n := 7)) ?_
 refine gop fun K19 hK19 => ?_
 refine go_storeS (n := 2) rfl rfl rfl rfl (by kernel_rfl) rfl rfl rfl ?_
 refine hK19 _ _ ?_
 refine gnt (hK18 _ _ ?_)
 refine gc_ret ?_
 refine ret_S (n := 2) rfl rfl underlying27 rfl (by kernel_rfl) rfl (fun w M => ?_)
 exact ⟨_, _, draw_of hsome.1, rfl, mem_packH [_, _] (mem_take 6 (mem_pick (n := 5) (mem_pick (n := 5) (mem_pick (n := 6) (mem_pick (n := 6) (mem_pick (n := 6) (mem_pick (n := 6) (M) rfl) rfl) rfl) rfl) rfl) rfl))⟩
end Go.Proofs.Ytbiplocgenppoaa
namespace Go.Proofs.Ytbiplocgenppoaa
open _root_.Go.Proofs.Try
open Go.RowKit
def NumP (r : Int) : Prop := -9223372036854775808 ≤ r ∧ r ≤ 9223372036854775807
theorem specDraw5_any (w0 w : World) (ca : Option Addr) (cl cc g : Nat) (F : List Itm) (hI : InB w0 (.slice ca cl cc)) (M : Mem w0 w [srcI ca cl cc g, tailI F]) :
  Calls Try.prog 21 #[.pointer (some ⟨g, 0, none⟩)] w (RetMHV w0 (srcI ca cl cc g) F (fun c (x : Int) => DrawP c ∧ NumP x) (fun x v => .tuple #[v, .int .i64 x])) := by
 go_enter func21, Try.ntmps21
 refine gc_enterM M (N := 23) rfl (look_cons (k := 0) rfl (look_nil _)) ?_
 clear M
 refine gc_sr fun K1 hK1 => ?_
 refine gop fun K3 hK3 => ?_
 refine go_alloc (z := (.agg #[.int .i64 0, .slice none 0 0, .slice none 0 0, .slice none 0 0, .slice none 0 0])) (cs := [.int .i64 0, .slice none 0 0, .slice none 0 0, .slice none 0 0, .slice none 0 0]) rfl rfl rfl (fun w => by kernel_rfl) rfl ?_
 intro B2
 refine hK3 _ _ ?_
 refine gas ?_
 refine gnt (hK1 _ _ ?_)
 refine gc_sr fun K4 hK4 => ?_
 refine gm ?_
 refine gop fun K6 hK6 => ?_
 refine go_callMH (P := DrawP) rfl rfl rfl func37 rfl (by decide) rfl rfl (fun w M => specDraw_any _ w ca cl cc g _ hI _ _ (by decide) (by decide) M) ?_
 intro cz5 ca5 cb5 cc5 cd5 ce5 cf5 cg5 ch5 hdraw
 refine hK6 _ _ ?_
 refine gop fun K8 hK8 => ?_
 refine go_alloc (z := (.agg #[.int .i64 0, .slice none 0 0, .slice none 0 0, .slice none 0 0, .slice none 0 0])) (cs := [.int .i64 0, .slice none 0 0, .slice none 0 0, .slice none 0 0, .slice none 0 0]) rfl rfl rfl (fun w => by kernel_rfl) rfl ?_
 intro B7
 refine hK8 _ _ ?_
 refine gop fun K9 hK9 => ?_
 refine go_storeS (n := 4) rfl rfl rfl rfl (by kernel_rfl) rfl rfl rfl ?_
 refine hK9 _ _ ?_
 refine gnt (hK4 _ _ ?_)
 refine gc_seq fun K10 hK10 => ?_
 have hdd := hdraw; obtain ⟨q1, q2, q3, q4, q5, q6⟩ := hdd
 refine gc_region ?_
 refine gv (qtf underlying27 (z := 0) (off := 1)) ?_
 refine gv (qtl underlying24 (n := 4)) ?_
 refine gv (qln (fun w M => lenV_rd (RdC.l1 (mem_held (n := 3) M rfl)))) ?_
 refine gas ?_
 refine gnt (hK10 _ _ ?_)
 refine gc_seq fun K11 hK11 => ?_
 refine gc_sr fun K12 hK12 => ?_
 refine gm ?_
 refine gop fun K14 hK14 => ?_
 refine go_srcNext (n := 0) rfl rfl rfl func51 rfl (by decide) rfl hI rfl (by omega) ?_
 intro r13 hs13
 refine hK14 _ _ ?_
 refine gv (qt_eql rfl rfl rfl) ?_
 refine gnt (hK12 _ _ ?_)
 refine gc_cond rfl (fun hc0 => ?_) (fun hc0 => ?_)
 ·try simp only [sA] at hc0
  refine gc_seq fun K15 hK15 => ?_
  try simp only [sL]
  refine ga_start _ (fun w M => mem_erase 0 (mem_erase 2 (M))) ?_
  refine gav 0 rfl (qts underlying27 (n := 2)) ?_
  refine gav 1 rfl (qt_move rfl rfl) ?_
  refine gav 2 rfl (qt_move rfl rfl) ?_
  refine gao 3 fun K17 hK17 => ?_
  refine go_slice4I rfl rfl rfl rfl rfl rfl rfl underlying24 ?_
  intro B16
  refine hK17 _ _ (fun w M => (ms0 0 2 5 M :)) ?_
  refine gao 4 fun K19 hK19 => ?_
  refine go_srcPick (n := 0) (m := 5) rfl rfl rfl func52 rfl (by decide) rfl hI rfl rfl (by decide) (by simp) ?_
  intro r18 hs18; simp only [List.mem_cons, List.not_mem_nil, or_false] at hs18
  refine hK19 _ _ (fun w M => (ms0 0 2 5 M :)) ?_
  refine gao 5 fun K20 hK20 => ?_
  refine go_storeS (n := 2) rfl rfl rfl rfl (by kernel_rfl) rfl rfl rfl ?_
  refine hK20 _ _ (fun w M => (ms0 0 2 5 M :)) ?_
  refine gav 6 rfl (qt_assign rfl rfl) ?_
  refine ga_done (by kernel_rfl) ?_
  refine gk_then (hK15 _ _ ?_)
  refine gc_ret ?_
  refine gk_then_ret ?_
  refine ret_SI (n := 2) rfl rfl rfl underlying27 rfl (by kernel_rfl) rfl (fun w M => ?_)
  exact ⟨_, _, _, ⟨hdraw, by omega, by omega⟩, rfl, mem_take 3 (mem_pick (n := 2) (mem_pick (n := 2) (mem_pick (n := 3) (M) rfl) rfl) rfl)⟩
 try simp only [sA] at hc0
 refine gc_skip ?_
 refine gk_then (hK11 _ _ ?_)
 refine gc_seq fun K21 hK21 => ?_
 try simp only [sL]
 refine ga_start _ (fun w M => mem_erase 0 (mem_erase 2 (M))) ?_
 refine gav 0 rfl (qts underlying27 (n := 2)) ?_
 refine gav 1 rfl (qt_move rfl rfl) ?_
 refine gav 2 rfl (qt_move rfl rfl) ?_
 refine gao 3 fun K23 hK23 => ?_
 refine go_srcNext (n := 0) rfl rfl rfl func51 rfl (by decide) rfl hI rfl (by omega) ?_
 intro r22 hs22
 refine hK23 _ _ (fun w M => (ms0 0 2 5 M :)) ?_
 refine gao 4 fun K24 hK24 => ?_
 refine go_storeS (n := 2) rfl rfl rfl rfl (by kernel_rfl) rfl rfl rfl ?_
 refine hK24 _ _ (fun w M => (ms0 0 2 5 M :)) ?_
 refine gav 5 rfl (qt_assign rfl rfl) ?_
 refine ga_done (by kernel_rfl) ?_
 refine gk_then (hK21 _ _ ?_)
 refine gc_ret ?_
 refine ret_SI (n := 2) rfl rfl rfl underlying27 rfl (by kernel_rfl) rfl (fun w M => ?_)
 exact ⟨_, _, _, ⟨hdraw, by omega, by omega⟩, rfl, mem_take 3 (mem_pick (n := 2) (mem_pick (n := 2) (mem_pick (n := 3) (M) rfl) rfl) rfl)⟩
end Go.Proofs.Ytbiplocgenppoaa
namespace Go.Proofs.Ytbiplocgenppoaa
open _root_.Go.Proofs.Try
open Go.RowKit
def RetHV {α : Type} (W : World) (P : Cat → α → Prop) (V : α → Value → Value) (e : Ending) (w' : World) : Prop := ∃ (c : Cat) (v : Value) (x : α), P c x ∧ e = .returned (V x v) ∧ Below W.heap.size W w' ∧ (heldI fun w => RdC w v c).p w' (fun k => W.heap.size ≤ k)
theorem mem_heldP {w0 w : World} {is : List Itm} {n : Nat} {φ : World → Prop} (M : Mem w0 w is) (h : is[n]? = some (heldI φ)) : (heldI φ).p w (fun k => w0.heap.size ≤ k) := by
 obtain ⟨S, hS, hb⟩ := mem_get M h
 exact (held_loc φ).keep (fun k _ hk => hS k hk) agree_refl hb
section
variable {w0 : World} {is : List Itm} {Q : Exit → Act → World → Prop} {o : Oper} {N : Frm} {e : Env} {d : Nat} {K : Act → World → Prop} {f : FuncId} {fn : Func} {ags : Array Operand} {ts : Array TypeId} {vs : List Value}
theorem go_callHV {α : Type} {P : Cat → α → Prop} {V : α → Value → Value} (hd : o.dst = some d) (hN : Nat.blt d N = true) (hop : o.op = .call { callee := .value (.func f), args := ags, argTypes := ts }) (hfn : Try.prog.funcs[f]? = some fn) (hb : fn.body.isNone = false) (hn : (fn.name == "runtime.NumGoroutine") = false)
  (hargs : evoL e ags.toList = some vs) (hc : ∀ w, Mem w0 w is → Calls Try.prog f vs.toArray w (RetHV w P V))
  (hk : ∀ (c : Cat) (x : α) (a1 a2 a3 a4 : Option Addr) (k1 k2 k3 k4 : Nat), P c x → GK w0 (is ++ [heldI fun w => RdC w (.agg #[.int .i64 c.ob, .slice a1 c.s.length k1, .slice a2 c.t.length k2, .slice a3 c.e.length k3, .slice a4 c.m.length k4]) c]) N K ((d, V x (.agg #[.int .i64 c.ob, .slice a1 c.s.length k1, .slice a2 c.t.length k2, .slice a3 c.e.length k3, .slice a4 c.m.length k4])) :: e)) : GO w0 is N o e Q K := by
 intro w a M G
 refine go_call hd hN G hop hfn hb hn hargs (hc w M) fun e' w' hR => ?_
 obtain ⟨c, v, x, hP, rfl, hbl, hp⟩ := hR
 obtain ⟨a1, a2, a3, a4, k1, k2, k3, k4, rfl, _⟩ := ((hp : ∀ w2, Agree _ w' w2 → RdC w2 v c) w' agree_refl).lists
 exact ⟨_, rfl, fun a G => hk c x a1 a2 a3 a4 k1 k2 k3 k4 hP w' a (mem_new M hbl hp) G⟩
end
theorem drawIsMono_any (w : World) (ca : Option Addr) (clen ccap : Nat) (h : InB w (.slice ca clen ccap)) :
  Calls Try.prog 6 #[.slice ca clen ccap] w (RetHV w (fun c (x : Int) => DrawP c ∧ NumP x) (fun x v => .tuple #[v, .int .i64 x])) := by
 go_enter func6, Try.ntmps6
 refine gc_enter (N := 9) rfl (look_cons (k := 0) rfl (look_nil _)) ?_
 refine gc_sr fun K1 hK1 => ?_
 refine gop fun K3 hK3 => ?_
 refine go_alloc (z := (.agg #[.int .i64 0, .slice none 0 0, .slice none 0 0, .slice none 0 0, .slice none 0 0])) (cs := [.int .i64 0, .slice none 0 0, .slice none 0 0, .slice none 0 0, .slice none 0 0]) rfl rfl rfl (fun w => by kernel_rfl) rfl ?_
 intro B2
 refine hK3 _ _ ?_
 refine gas ?_
 refine gnt (hK1 _ _ ?_)
 refine gc_sr fun K4 hK4 => ?_
 refine gm ?_
 refine gop fun K6 hK6 => ?_
 refine go_srcFrom rfl rfl rfl func22 rfl (by decide) rfl h ?_
 intro g; refine gk_pickL [1, 0] ?_
 refine hK6 _ _ ?_
 refine gop fun K8 hK8 => ?_
 refine go_callMHV (α := Int) (P := fun c x => DrawP c ∧ NumP x) (V := fun x v => .tuple #[v, .int .i64 x]) rfl rfl rfl func21 rfl (by decide) rfl rfl (fun w M => specDraw5_any _ w ca clen ccap g _ h M) ?_
 intro cz x ca1 cb1 cc1 cd1 ce1 cf1 cg1 ch1 hdraw
 refine hK8 _ _ ?_
 refine gv (qt_extract rfl rfl rfl) ?_
 refine gv (qt_extract rfl rfl rfl) ?_
 refine gop fun K9 hK9 => ?_
 refine go_storeS (n := 1) rfl rfl rfl rfl (by kernel_rfl) rfl rfl rfl ?_
 refine hK9 _ _ ?_
 refine gas ?_
 refine gnt (hK4 _ _ ?_)
 refine gc_ret ?_
 refine ret_SI (n := 1) rfl rfl rfl underlying27 rfl (by kernel_rfl) rfl (fun w M => ?_)
 exact ⟨_, _, _, hdraw, rfl, M.1, mem_heldP (n := 2) M rfl⟩
end Go.Proofs.Ytbiplocgenppoaa
namespace Go.Proofs.Ytbiplocgenppoaa
open _root_.Go.Proofs.Try
open Go.RowKit
theorem l05Arrow_any (w : World) (v : Value) (c : Cat) (f : Int) (h : RdC w v c) :
  Calls Try.prog 54 #[v, .int .i64 f] w (RetB w (bP (0 ≤ f ∧ f < c.s.length))) := by
 have h0 := h
 obtain ⟨va, vb, vc, vd, ve, vf, vg, vh, rfl, h1, h2, h3, h4, _⟩ := h.lists
 go_enter func54, Try.ntmps54
 refine gc_enter (N := 14) rfl (look_cons (k := 0) rfl (look_cons (k := 1) rfl (look_nil _))) ?_
 refine gc_sr fun K1 hK1 => ?_
 refine gop fun K3 hK3 => ?_
 refine go_box rfl rfl rfl rfl rfl ?_
 intro B2
 refine hK3 _ _ ?_
 refine gas ?_
 refine gnt (hK1 _ _ ?_)
 refine gc_sr fun K4 hK4 => ?_
 refine gm ?_
 refine gv (qt_geq rfl rfl rfl) ?_
 refine g_splitv (.free rfl) rfl rfl (qt_move rfl rfl) (fun hs1_2 => ?_) (fun hs1_2 => ?_)
 ·try simp only [sA] at hs1_2
  refine gvh (qt_move rfl rfl) ?_
  refine gvh (qtf underlying27 (z := 0) (off := 1)) ?_
  refine gvh (qtl underlying24 (n := 0)) ?_
  refine gvh (qln (fun w M => lenV_rd h1)) ?_
  refine gvh (qt_lss rfl rfl rfl) ?_
  refine gv (qt_pick_t rfl rfl rfl) ?_
  refine gas ?_
  refine gnt (hK4 _ _ ?_)
  refine gc_ret ?_
  refine ret_1 rfl rfl  (fun w M => ?_)
  rw [bP_dec]; exact ⟨by first | rfl | (congr 2; simp; omega), M.1⟩
 try simp only [sA] at hs1_2
 refine gsk ?_
 refine gsk ?_
 refine gsk ?_
 refine gsk ?_
 refine gsk ?_
 refine gv (qt_pick_f rfl rfl rfl) ?_
 refine gas ?_
 refine gnt (hK4 _ _ ?_)
 refine gc_ret ?_
 refine ret_1 rfl rfl  (fun w M => ?_)
 rw [bP_f (by omega)]; exact ⟨rfl, M.1⟩
theorem l05Code_any (w : World) (v : Value) (c : Cat) (f : Int) (h : RdC w v c) :
  Calls Try.prog 25 #[v, .int .i64 f] w (RetI w (arrErr c [f])) := by
 have h0 := h
 obtain ⟨va, vb, vc, vd, ve, vf, vg, vh, rfl, h1, h2, h3, h4, _⟩ := h.lists
 go_enter func25, Try.ntmps25
 refine gc_enter (N := 14) rfl (look_cons (k := 0) rfl (look_cons (k := 1) rfl (look_nil _))) ?_
 refine gc_sr fun K1 hK1 => ?_
 refine gop fun K3 hK3 => ?_
 refine go_box rfl rfl rfl rfl rfl ?_
 intro B2
 refine hK3 _ _ ?_
 refine gas ?_
 refine gnt (hK1 _ _ ?_)
 refine gc_seq fun K4 hK4 => ?_
 refine gc_block ?_
 refine gc_sr fun K5 hK5 => ?_
 refine gv (qts underlying27 (n := 0)) ?_
 refine g_q (.free rfl) rfl rfl (qt_call rfl func43 rfl (by decide) rfl (fun w M => specIs_any w _ _ (mem_rdC M h0))) ?_
 refine gv (qt_not rfl rfl) ?_
 refine gas ?_
 refine gnt (hK5 _ _ ?_)
 refine gc_cond rfl (fun hc0 => ?_) (fun hc0 => ?_)
 ·try simp only [sA] at hc0
  refine gc_sr fun K6 hK6 => ?_
  refine gas ?_
  refine gnt (hK6 _ _ ?_)
  refine gc_ret ?_
  refine gk_block_ret ?_
  refine gk_then_ret ?_
  refine ret_1 rfl rfl  (fun w M => ?_)
  rw [arrErr_f hc0]; exact ⟨rfl, M.1⟩
 try simp only [sA] at hc0
 refine gc_sr fun K7 hK7 => ?_
 refine gv (qts underlying27 (n := 0)) ?_
 refine gm ?_
 refine g_q (.free rfl) rfl rfl (qt_call rfl func54 rfl (by decide) rfl (fun w M => l05Arrow_any w _ _ _ (mem_rdC M h0))) ?_
 refine gv (qt_not rfl rfl) ?_
 refine gas ?_
 refine gnt (hK7 _ _ ?_)
 refine gc_cond rfl (fun hc1 => ?_) (fun hc1 => ?_)
 ·try simp only [sA] at hc1
  refine gc_sr fun K8 hK8 => ?_
  refine gas ?_
  refine gnt (hK8 _ _ ?_)
  refine gc_ret ?_
  refine gk_block_ret ?_
  refine gk_then_ret ?_
  refine ret_1 rfl rfl  (fun w M => ?_)
  rw [arrErr_r hc0 (fun h => bP_f' hc1 (allP_one.1 h))]; exact ⟨rfl, M.1⟩
 try simp only [sA] at hc1
 refine gc_skip ?_
 refine gk_block ?_
 refine gk_then (hK4 _ _ ?_)
 refine gc_sr fun K9 hK9 => ?_
 refine gas ?_
 refine gnt (hK9 _ _ ?_)
 refine gc_ret ?_
 refine ret_1 rfl rfl  (fun w M => ?_)
 rw [arrErr_t hc0 (allP_one.2 (bP_t' hc1))]; exact ⟨rfl, M.1⟩
theorem specMono_any (w : World) (v : Value) (c : Cat) (f : Int) (h : RdC w v c) (hS : ShapeP c) (f0 : 0 ≤ f) (f1 : f < c.s.length) :
  Calls Try.prog 26 #[v, .int .i64 f] w (RetB w (bP (monoP c f))) := by
 have h0 := h
 obtain ⟨va, vb, vc, vd, ve, vf, vg, vh, rfl, h1, h2, h3, h4, _⟩ := h.lists
 have hf := arrP hS f0 f1
 have e1 := hf.fs; have e2 := hf.ft; have e3 := hf.fm; have e4 := hf.s0; have e5 := hf.s1; have e6 := hf.t0; have e7 := hf.t1; have e8 := hf.row
 have hn40 := hS.n40; have htl := hS.tl; have hel := hS.el
 go_enter func26, Try.ntmps26
 refine gc_enter (N := 79) rfl (look_cons (k := 0) rfl (look_cons (k := 1) rfl (look_nil _))) ?_
 refine gc_sr fun K1 hK1 => ?_
 refine gop fun K3 hK3 => ?_
 refine go_box rfl rfl rfl rfl rfl ?_
 intro B2
 refine hK3 _ _ ?_
 refine gas ?_
 refine gnt (hK1 _ _ ?_)
 refine gc_seq fun K4 hK4 => ?_
 refine gc_sr fun K5 hK5 => ?_
 refine gas ?_
 refine gnt (hK5 _ _ ?_)
 refine gc_block ?_
 try simp only [sL]
 refine gc_loopT ([(0, _), (1, _), (2, _)] : Env) (fun s : Nat => (fun (k : Nat) => (([(5, .int .i64 (k : Int))] : Env), ([] : List (Nat × Itm)), k ≤ c.s.length ∧ noB (badM c f) c.s.length k 0, c.s.length - k)) s) (0) (by repeat first | exact sub_nil | refine sub_cons rfl ?_) rfl ⟨Nat.zero_le _, noB_zero _ _⟩ ?_
 rintro k hinv KL6 hKL6
 simp only [sU, sL] at hinv hKL6 ⊢
 obtain ⟨hk, hno⟩ := hinv
 refine gc_seq fun K7 hK7 => ?_
 refine gc_sr fun K8 hK8 => ?_
 refine gm ?_
 refine gv (qtf underlying27 (z := 0) (off := 1)) ?_
 refine gv (qtl underlying24 (n := 0)) ?_
 refine gv (qln (fun w M => lenV_rd h1)) ?_
 refine gv (qt_lss rfl rfl rfl) ?_
 refine gnt (hK8 _ _ ?_)
 refine gc_cond rfl (fun hc0 => ?_) (fun hc0 => ?_)
 ·try simp only [sA] at hc0
  refine gc_skip ?_
  refine gk_then (hK7 _ _ ?_)
  refine gc_seq fun K9 hK9 => ?_
  refine gc_block ?_
  refine gc_sr fun K10 hK10 => ?_
  refine gm ?_
  refine gv (qt_add rfl rfl rfl (by omega)) ?_
  refine gas ?_
  refine gnt (hK10 _ _ ?_)
  refine gc_block ?_
  try simp only [sL]
  refine gc_loopT ([(0, _), (1, _), (2, _), (5, _), (11, _)] : Env) (fun s : Nat => (fun (l : Nat) => (([(6, .int .i64 (l : Int))] : Env), ([] : List (Nat × Itm)), k + 1 ≤ l ∧ l ≤ c.s.length ∧ noB (badM c f) c.s.length k l, c.s.length - l)) s) (k + 1) (by repeat first | exact sub_nil | refine sub_cons rfl ?_) rfl ⟨Nat.le_refl _, by omega, noB_row hno⟩ ?_
  rintro l hinv KL11 hKL11
  simp only [sU, sL] at hinv hKL11 ⊢
  obtain ⟨hl0, hl1, hno1⟩ := hinv
  refine gc_seq fun K12 hK12 => ?_
  refine gc_sr fun K13 hK13 => ?_
  refine gm ?_
  refine gv (qtf underlying27 (z := 0) (off := 1)) ?_
  refine gv (qtl underlying24 (n := 0)) ?_
  refine gv (qln (fun w M => lenV_rd h1)) ?_
  refine gv (qt_lss rfl rfl rfl) ?_
  refine gnt (hK13 _ _ ?_)
  refine gc_cond rfl (fun hc1 => ?_) (fun hc1 => ?_)
  ·try simp only [sA] at hc1
   refine gc_skip ?_
   refine gk_then (hK12 _ _ ?_)
   refine gc_seq fun K14 hK14 => ?_
   refine gc_block ?_
   refine gc_seq fun K15 hK15 => ?_
   have hA := arrP hS (f := (k : Int)) (by omega) (by omega)
   have hB := arrP hS (f := (l : Int)) (by omega) (by omega)
   have a1 := hA.fs; have a2 := hA.ft; have a3 := hA.fm; have a4 := hA.row; have b1 := hB.fs; have b2 := hB.ft; have b3 := hB.fm; have b4 := hB.row
   refine gc_draw (by kernel_rfl) ?_
   refine gdv (qtf underlying27 (z := 0) (off := 1)) ?_
   refine gdv (qtl underlying24 (n := 0)) ?_
   refine gdv (qt_move rfl rfl) ?_
   refine gdv (qti (fun w M => lenA_rd h1)) ?_
   refine gdv (qtd (fun w M => mem_rd M h1)) ?_
   refine gdv (qtf underlying27 (z := 0) (off := 1)) ?_
   refine gdv (qtl underlying24 (n := 0)) ?_
   refine gdv (qt_move rfl rfl) ?_
   refine gdv (qti (fun w M => lenA_rd h1)) ?_
   refine gdv (qtd (fun w M => mem_rd M h1)) ?_
   refine gdv (qt_eql rfl rfl rfl) ?_
   refine gd_splitv (.free rfl) rfl rfl (qt_move rfl rfl) (fun hs7_11 => ?_) (fun hs7_11 => ?_)
   ·try simp only [sA] at hs7_11
    refine gdvh (qtf underlying27 (z := 0) (off := 2)) ?_
    refine gdvh (qtl underlying24 (n := 0)) ?_
    refine gdvh (qt_move rfl rfl) ?_
    refine gdvh (qti (fun w M => lenA_rd h2)) ?_
    refine gdvh (qtd (fun w M => mem_rd M h2)) ?_
    refine gdvh (qtf underlying27 (z := 0) (off := 1)) ?_
    refine gdvh (qtl underlying24 (n := 0)) ?_
    refine gdvh (qt_move rfl rfl) ?_
    refine gdvh (qti (fun w M => lenA_rd h1)) ?_
    refine gdvh (qtd (fun w M => mem_rd M h1)) ?_
    refine gdvh (qt_eql rfl rfl rfl) ?_
    refine gdv (qt_pick_t rfl rfl rfl) ?_
    refine gd_splitv (.free rfl) rfl rfl (qt_move rfl rfl) (fun hs7_24 => ?_) (fun hs7_24 => ?_)
    ·try simp only [sA] at hs7_24
     refine gdvh (qtf underlying27 (z := 0) (off := 2)) ?_
     refine gdvh (qtl underlying24 (n := 0)) ?_
     refine gdvh (qt_move rfl rfl) ?_
     refine gdvh (qti (fun w M => lenA_rd h2)) ?_
     refine gdvh (qtd (fun w M => mem_rd M h2)) ?_
     refine gdvh (qtf underlying27 (z := 0) (off := 1)) ?_
     refine gdvh (qtl underlying24 (n := 0)) ?_
     refine gdvh (qt_move rfl rfl) ?_
     refine gdvh (qti (fun w M => lenA_rd h1)) ?_
     refine gdvh (qtd (fun w M => mem_rd M h1)) ?_
     refine gdvh (qt_eql rfl rfl rfl) ?_
     refine gdv (qt_pick_t rfl rfl rfl) ?_
     refine gd_splitv (.free rfl) rfl rfl (qt_move rfl rfl) (fun hs7_37 => ?_) (fun hs7_37 => ?_)
     ·try simp only [sA] at hs7_37
      refine gdvh (qtf underlying27 (z := 0) (off := 4)) ?_
      refine gdvh (qtl underlying25 (n := 0)) ?_
      refine gdvh (qt_move rfl rfl) ?_
      refine gdvh (qti2 (fun w M => lenA_rd2 h4)) ?_
      refine gd_load2 (.held _ _ _ rfl rfl rfl) rfl rfl rfl rfl underlying24 rfl h4 (by omega) (by omega) ?_
      intro ra16 rc16 hr16
      refine gdvh (qt_move rfl rfl) ?_
      refine gdvh (qti (fun w M => lenA_rd hr16)) ?_
      refine gdvh (qtd (fun w M => mem_rd M hr16)) ?_
      refine gdvh (qtf underlying27 (z := 0) (off := 4)) ?_
      refine gdvh (qtl underlying25 (n := 0)) ?_
      refine gdvh (qt_move rfl rfl) ?_
      refine gdvh (qti2 (fun w M => lenA_rd2 h4)) ?_
      refine gd_load2 (.held _ _ _ rfl rfl rfl) rfl rfl rfl rfl underlying24 rfl h4 (by omega) (by omega) ?_
      intro ra17 rc17 hr17
      refine gdvh (qt_move rfl rfl) ?_
      refine gdvh (qti (fun w M => lenA_rd hr17)) ?_
      refine gdvh (qtd (fun w M => mem_rd M hr17)) ?_
      refine gdvh (qt_eql rfl rfl rfl) ?_
      refine gdv (qt_pick_t rfl rfl rfl) ?_
      refine gd_nil ?_
      refine gk_then (hK15 _ _ ?_)
      refine gc_cond rfl (fun hc2 => ?_) (fun hc2 => ?_)
      ·try simp only [sA] at hc2
       refine gc_sr fun K18 hK18 => ?_
       refine gas ?_
       refine gnt (hK18 _ _ ?_)
       refine gc_ret ?_
       refine gk_block_ret ?_
       refine gk_then_ret ?_
       refine gk_then_ret ?_
       refine gk_block_ret ?_
       refine gk_block_ret ?_
       refine gk_then_ret ?_
       refine gk_then_ret ?_
       refine gk_block_ret ?_
       refine gk_then_ret ?_
       refine ret_1 rfl rfl  (fun w M => ?_)
       rw [bP_f (mono_not hS f0 f1 (g := k) (h := l) (by omega) (by omega) ⟨hs7_11, hs7_24, hs7_37, hc2⟩)]; exact ⟨rfl, M.1⟩
      try simp only [sA] at hc2
      refine gc_skip ?_
      refine gk_block ?_
      refine gk_then (hK14 _ _ ?_)
      refine gc_region ?_
      refine gm ?_
      refine gv (qt_add rfl rfl rfl (by omega)) ?_
      refine gas ?_
      refine g_nil ?_
      refine gk_then (gk_take 1 ?_)
      refine gk_sub ?hs_19 (hKL11 (l + 1) ?hi_19 ?hm_19)
      case hs_19 => repeat first | exact sub_nil | refine sub_cons rfl ?_
      case hi_19 => exact ⟨by omega, by omega, noB_next hno1 fun h => hc2 h.2.2.2⟩
      case hm_19 => omega
     try simp only [sA] at hs7_37
     refine gdsk ?_
     refine gdsk ?_
     refine gdsk ?_
     refine gdsk ?_
     refine gdsk ?_
     refine gdsk ?_
     refine gdsk ?_
     refine gdsk ?_
     refine gdsk ?_
     refine gdsk ?_
     refine gdsk ?_
     refine gdsk ?_
     refine gdsk ?_
     refine gdsk ?_
     refine gdsk ?_
     refine gdsk ?_
     refine gdsk ?_
     refine gdv (qt_pick_f rfl rfl rfl) ?_
     refine gd_nil ?_
     refine gk_then (hK15 _ _ ?_)
     refine gc_cond_f rfl ?_
     refine gc_skip ?_
     refine gk_block ?_
     refine gk_then (hK14 _ _ ?_)
     refine gc_region ?_
     refine gm ?_
     refine gv (qt_add rfl rfl rfl (by omega)) ?_
     refine gas ?_
     refine g_nil ?_
     refine gk_then (gk_take 1 ?_)
     refine gk_sub ?hs_20 (hKL11 (l + 1) ?hi_20 ?hm_20)
     case hs_20 => repeat first | exact sub_nil | refine sub_cons rfl ?_
     case hi_20 => exact ⟨by omega, by omega, noB_next hno1 fun h => hs7_37 h.2.2.1⟩
     case hm_20 => omega
    try simp only [sA] at hs7_24
    refine gdsk ?_
    refine gdsk ?_
    refine gdsk ?_
    refine gdsk ?_
    refine gdsk ?_
    refine gdsk ?_
    refine gdsk ?_
    refine gdsk ?_
    refine gdsk ?_
    refine gdsk ?_
    refine gdsk ?_
    refine gdv (qt_pick_f rfl rfl rfl) ?_
    refine gdv (qt_move rfl rfl) ?_
    refine gdsk ?_
    refine gdsk ?_
    refine gdsk ?_
    refine gdsk ?_
    refine gdsk ?_
    refine gdsk ?_
    refine gdsk ?_
    refine gdsk ?_
    refine gdsk ?_
    refine gdsk ?_
    refine gdsk ?_
    refine gdsk ?_
    refine gdsk ?_
    refine gdsk ?_
    refine gdsk ?_
    refine gdsk ?_
    refine gdsk ?_
    refine gdv (qt_pick_f rfl rfl rfl) ?_
    refine gd_nil ?_
    refine gk_then (hK15 _ _ ?_)
    refine gc_cond_f rfl ?_
    refine gc_skip ?_
    refine gk_block ?_
    refine gk_then (hK14 _ _ ?_)
    refine gc_region ?_
    refine gm ?_
    refine gv (qt_add rfl rfl rfl (by omega)) ?_
    refine gas ?_
    refine g_nil ?_
    refine gk_then (gk_take 1 ?_)
    refine gk_sub ?hs_21 (hKL11 (l + 1) ?hi_21 ?hm_21)
    case hs_21 => repeat first | exact sub_nil | refine sub_cons rfl ?_
    case hi_21 => exact ⟨by omega, by omega, noB_next hno1 fun h => hs7_24 h.2.1⟩
    case hm_21 => omega
   try simp only [sA] at hs7_11
   refine gdsk ?_
   refine gdsk ?_
   refine gdsk ?_
   refine gdsk ?_
   refine gdsk ?_
   refine gdsk ?_
   refine gdsk ?_
   refine gdsk ?_
   refine gdsk ?_
   refine gdsk ?_
   refine gdsk ?_
   refine gdv (qt_pick_f rfl rfl rfl) ?_
   refine gdv (qt_move rfl rfl) ?_
   refine gdsk ?_
   refine gdsk ?_
   refine gdsk ?_
   refine gdsk ?_
   refine gdsk ?_
   refine gdsk ?_
   refine gdsk ?_
   refine gdsk ?_
   refine gdsk ?_
   refine gdsk ?_
   refine gdsk ?_
   refine gdv (qt_pick_f rfl rfl rfl) ?_
   refine gdv (qt_move rfl rfl) ?_
   refine gdsk ?_
   refine gdsk ?_
   refine gdsk ?_
   refine gdsk ?_
   refine gdsk ?_
   refine gdsk ?_
   refine gdsk ?_
   refine gdsk ?_
   refine gdsk ?_
   refine gdsk ?_
   refine gdsk ?_
   refine gdsk ?_
   refine gdsk ?_
   refine gdsk ?_
   refine gdsk ?_
   refine gdsk ?_
   refine gdsk ?_
   refine gdv (qt_pick_f rfl rfl rfl) ?_
   refine gd_nil ?_
   refine gk_then (hK15 _ _ ?_)
   refine gc_cond_f rfl ?_
   refine gc_skip ?_
   refine gk_block ?_
   refine gk_then (hK14 _ _ ?_)
   refine gc_region ?_
   refine gm ?_
   refine gv (qt_add rfl rfl rfl (by omega)) ?_
   refine gas ?_
   refine g_nil ?_
   refine gk_then (gk_take 1 ?_)
   refine gk_sub ?hs_22 (hKL11 (l + 1) ?hi_22 ?hm_22)
   case hs_22 => repeat first | exact sub_nil | refine sub_cons rfl ?_
   case hi_22 => exact ⟨by omega, by omega, noB_next hno1 fun h => hs7_11 h.1⟩
   case hm_22 => omega
  try simp only [sA] at hc1
  refine gc_exit ?_
  refine gk_then_exit ?_
  refine gk_then_exit ?_
  refine gk_block_hit ?_
  refine gk_block ?_
  refine gk_then (hK9 _ _ ?_)
  refine gc_region ?_
  refine gm ?_
  refine gv (qt_add rfl rfl rfl (by omega)) ?_
  refine gas ?_
  refine g_nil ?_
  refine gk_then (gk_take 1 ?_)
  refine gk_sub ?hs_23 (hKL6 (k + 1) ?hi_23 ?hm_23)
  case hs_23 => repeat first | exact sub_nil | refine sub_cons rfl ?_
  case hi_23 => exact ⟨by omega, noB_end hno1 (by omega)⟩
  case hm_23 => omega
 try simp only [sA] at hc0
 refine gc_exit ?_
 refine gk_then_exit ?_
 refine gk_then_exit ?_
 refine gk_block_hit ?_
 refine gk_then (hK4 _ _ ?_)
 refine gc_sr fun K24 hK24 => ?_
 refine gas ?_
 refine gnt (hK24 _ _ ?_)
 refine gc_ret ?_
 refine ret_1 rfl rfl  (fun w M => ?_)
 obtain rfl : k = c.s.length := by omega
 rw [bP_t (mono_of hS f0 f1 hno)]; exact ⟨rfl, M.1⟩
end Go.Proofs.Ytbiplocgenppoaa
namespace Go.Proofs.Ytbiplocgenppoaa
open _root_.Go.Proofs.Try
open Go.RowKit
theorem spec_IsMono (w : World) (v : Value) (c : Cat) (f : Int) (h : RdC w v c) :
  Calls Try.prog 8 #[v, .int .i64 f] w (RetBI w (fIsMono c f).1 (fIsMono c f).2) := by
 have h0 := h
 obtain ⟨va, vb, vc, vd, ve, vf, vg, vh, rfl, h1, h2, h3, h4, _⟩ := h.lists
 go_enter func8, Try.ntmps8
 refine gc_enter (N := 16) rfl (look_cons (k := 0) rfl (look_cons (k := 1) rfl (look_nil _))) ?_
 refine gc_sr fun K1 hK1 => ?_
 refine gop fun K3 hK3 => ?_
 refine go_box rfl rfl rfl rfl rfl ?_
 intro B2
 refine hK3 _ _ ?_
 refine gas ?_
 refine gas ?_
 refine gnt (hK1 _ _ ?_)
 refine gc_sr fun K4 hK4 => ?_
 refine gv (qts underlying27 (n := 0)) ?_
 refine gm ?_
 refine g_q (.free rfl) rfl rfl (qt_call rfl func25 rfl (by decide) rfl (fun w M => l05Code_any w _ _ _ (mem_rdC M h0))) ?_
 refine gas ?_
 refine gnt (hK4 _ _ ?_)
 refine gc_seq fun K5 hK5 => ?_
 refine gc_sr fun K6 hK6 => ?_
 refine gm ?_
 refine gv (qt_neq rfl rfl rfl) ?_
 refine gnt (hK6 _ _ ?_)
 refine gc_cond rfl (fun hc0 => ?_) (fun hc0 => ?_)
 ·try simp only [sA] at hc0
  refine gc_sr fun K7 hK7 => ?_
  refine gm ?_
  refine gas ?_
  refine gas ?_
  refine gnt (hK7 _ _ ?_)
  refine gc_ret ?_
  refine gk_then_ret ?_
  refine ret_2 rfl rfl rfl  (fun w M => ?_)
  rw [IsMono_e hc0]; exact ⟨rfl, M.1⟩
 try simp only [sA] at hc0
 refine gc_skip ?_
 refine gk_then (hK5 _ _ ?_)
 refine gc_seq fun K8 hK8 => ?_
 have hE := arrErr_0 hc0
 have hC := hE.1
 have hS := hC.toShapeP
 have hf := allP_one.1 hE.2
 have f0 := hf.1; have f1 := hf.2
 refine gc_region ?_
 refine gv (qts underlying27 (n := 0)) ?_
 refine gm ?_
 refine g_q (.free rfl) rfl rfl (qt_call rfl func26 rfl (by decide) rfl (fun w M => specMono_any w _ _ _ (mem_rdC M h0) (by first | assumption | omega) (by first | assumption | omega) (by first | assumption | omega))) ?_
 refine gas ?_
 refine gas ?_
 refine gnt (hK8 _ _ ?_)
 refine gc_ret ?_
 refine ret_2 rfl rfl rfl  (fun w M => ?_)
 rw [IsMono_t hc0]; exact ⟨rfl, M.1⟩
end Go.Proofs.Ytbiplocgenppoaa
