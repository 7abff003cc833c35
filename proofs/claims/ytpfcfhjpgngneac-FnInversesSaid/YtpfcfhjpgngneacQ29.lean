import Derived.Test.YtpfcfhjpgngneacQ28
set_option linter.unusedSimpArgs false
set_option linter.unusedVariables false
set_option linter.unusedSectionVars false
namespace Go.Proofs.Ytpfcfhjpgngneac
open Go.RowKit
theorem star_rdC {F : List Itm} {w : World} {S : Nat → Prop} {c : Cat} {vs vt ve vm : Value} {us : List Value} (a b d g : Nat) (h1 : F[a]? = some (own1I vs c.s)) (h2 : F[b]? = some (own1I vt c.t)) (h3 : F[d]? = some (own1I ve c.e)) (h4 : F[g]? = some (own2U vm us c.m)) (h : Star F w S) : RdC w (.agg #[.int .i64 c.ob, vs, vt, ve, vm]) c := by
 obtain ⟨S1, _, p1⟩ := star_get F h1 h
 obtain ⟨S2, _, p2⟩ := star_get F h2 h
 obtain ⟨S3, _, p3⟩ := star_get F h3 h
 obtain ⟨S4, _, p4⟩ := star_get F h4 h
 exact ⟨vs, vt, ve, vm, rfl, Own1.rd p1, Own1.rd p2, Own1.rd p3, Own2.rd (S := S4) ⟨us, p4⟩⟩
def RetMHV {α : Type} (w0 : World) (i : Itm) (F : List Itm) (P : Cat → α → Prop) (V : α → Value → Value) (e : Ending) (w' : World) : Prop := ∃ (c : Cat) (v : Value) (x : α), P c x ∧ e = .returned (V x v) ∧ Mem w0 w' [i, tailI F, heldI (fun w => RdC w v c)]
section
variable {w0 : World} {is : List Itm} {Q : Exit → Act → World → Prop} {o : Oper} {N : Nat} {e : Env} {d : Nat} {K : Act → World → Prop} {f : FuncId} {fn : Func} {ags : Array Operand} {ts : Array TypeId} {vs : List Value}
theorem go_callMHV {α : Type} {i : Itm} {F : List Itm} {P : Cat → α → Prop} {V : α → Value → Value} (hd : o.dst = some d) (hN : Nat.blt d N = true) (hop : o.op = .call { callee := .value (.func f), args := ags, argTypes := ts }) (hfn : Try.prog.funcs[f]? = some fn) (hb : fn.body.isNone = false) (hn : (fn.name == "runtime.NumGoroutine") = false)
  (hargs : evoL e ags.toList = some vs) (his : is = i :: F) (hc : ∀ w, Mem w0 w [i, tailI F] → Calls Try.prog f vs.toArray w (RetMHV w0 i F P V))
  (hk : ∀ (c : Cat) (x : α) (a1 a2 a3 a4 : Option Addr) (k1 k2 k3 k4 : Nat), P c x → GK w0 (is ++ [heldI fun w => RdC w (.agg #[.int .i64 c.ob, .slice a1 c.s.length k1, .slice a2 c.t.length k2, .slice a3 c.e.length k3, .slice a4 c.m.length k4]) c]) N K ((d, V x (.agg #[.int .i64 c.ob, .slice a1 c.s.length k1, .slice a2 c.t.length k2, .slice a3 c.e.length k3, .slice a4 c.m.length k4])) :: e)) : GO w0 is N o e Q K := by
 subst his
 intro w a M G
 refine go_call hd hN G hop hfn hb hn hargs (hc w (mem_tail_in (L := [i]) M)) fun e' w' hR => ?_
 obtain ⟨c, v, x, hP, rfl, M'⟩ := hR
 obtain ⟨a1, a2, a3, a4, k1, k2, k3, k4, rfl, _⟩ := (mem_held (n := 2) M' rfl).lists
 exact ⟨_, rfl, fun a G => hk c x a1 a2 a3 a4 k1 k2 k3 k4 hP w' a (mem_mid (J := [heldI fun w => RdC w _ c]) M') G⟩
theorem go_callMH {i : Itm} {F : List Itm} {P : Cat → Prop} (hd : o.dst = some d) (hN : Nat.blt d N = true) (hop : o.op = .call { callee := .value (.func f), args := ags, argTypes := ts }) (hfn : Try.prog.funcs[f]? = some fn) (hb : fn.body.isNone = false) (hn : (fn.name == "runtime.NumGoroutine") = false)
  (hargs : evoL e ags.toList = some vs) (his : is = i :: F) (hc : ∀ w, Mem w0 w [i, tailI F] → Calls Try.prog f vs.toArray w (RetMH w0 i F P))
  (hk : ∀ (c : Cat) (a1 a2 a3 a4 : Option Addr) (k1 k2 k3 k4 : Nat), P c → GK w0 (is ++ [heldI fun w => RdC w (.agg #[.int .i64 c.ob, .slice a1 c.s.length k1, .slice a2 c.t.length k2, .slice a3 c.e.length k3, .slice a4 c.m.length k4]) c]) N K ((d, .agg #[.int .i64 c.ob, .slice a1 c.s.length k1, .slice a2 c.t.length k2, .slice a3 c.e.length k3, .slice a4 c.m.length k4]) :: e)) : GO w0 is N o e Q K :=
 go_callMHV (α := Unit) (P := fun c _ => P c) (V := fun _ v => v) hd hN hop hfn hb hn hargs his (fun w M => (hc w M).mono fun e w1 h => by obtain ⟨c, v, hP, he, M'⟩ := h; exact ⟨c, v, (), hP, he, M'⟩) fun c _ => hk c
end
set_option maxHeartbeats 1000000 in
set_option maxRecDepth 100000 in
theorem specDraw_any (w0 w : World) (ca : Option Addr) (cl cc g : Nat) (F : List Itm) (hI : InB w0 (.slice ca cl cc)) (o a : Int) (ho : 1 ≤ o) (ha : 1 ≤ a) (M : Mem w0 w [srcI ca cl cc g, tailI F]) :
  Calls Try.prog 72 #[.pointer (some ⟨g, 0, none⟩), .int .i64 o, .int .i64 a] w (RetMH w0 (srcI ca cl cc g) F DrawP) := by
 go_enter Try.func72, Try.ntmps72
 refine gc_enterM M (N := 19) rfl (look_cons (k := 0) rfl (look_cons (k := 1) rfl (look_cons (k := 2) rfl (look_nil _)))) ?_
 clear M
 refine gc_sr fun K1 hK1 => ?_
 refine gop fun K3 hK3 => ?_
 refine go_alloc (z := (.agg #[.int .i64 0, .slice none 0 0, .slice none 0 0, .slice none 0 0, .slice none 0 0])) (cs := [.int .i64 0, .slice none 0 0, .slice none 0 0, .slice none 0 0, .slice none 0 0]) rfl rfl rfl (fun w => by kernel_rfl) rfl ?_
 intro B2
 refine hK3 _ _ ?_
 refine gnt (hK1 _ _ ?_)
 refine gc_sr fun K4 hK4 => ?_
 refine gm ?_
 refine gm ?_
 refine gm ?_
 refine gop fun K6 hK6 => ?_
 refine go_callMC (P := SomeP o a) rfl rfl rfl Try.func132 rfl (by decide) rfl rfl (fun w M => specSome_any _ w ca cl cc g _ hI o a ho ha M) ?_
 intro cz5 ca5 cb5 cc5 cd5 ce5 cf5 cg5 ch5 cu5 hsome
 refine hK6 _ _ ?_
 refine gop fun K8 hK8 => ?_
 refine go_alloc (z := (.agg #[.int .i64 0, .slice none 0 0, .slice none 0 0, .slice none 0 0, .slice none 0 0])) (cs := [.int .i64 0, .slice none 0 0, .slice none 0 0, .slice none 0 0, .slice none 0 0]) rfl rfl rfl (fun w => by kernel_rfl) rfl ?_
 intro B7
 refine hK8 _ _ ?_
 refine gop fun K9 hK9 => ?_
 refine go_storeS (n := 7) rfl rfl rfl rfl (by kernel_rfl) rfl rfl rfl ?_
 refine hK9 _ _ ?_
 refine gnt (hK4 _ _ ?_)
 refine gc_seq fun K10 hK10 => ?_
 refine gc_sr fun K11 hK11 => ?_
 refine gm ?_
 refine gop fun K13 hK13 => ?_
 refine go_srcNext (n := 0) rfl rfl rfl Try.func71 rfl (by decide) rfl hI rfl (by omega) ?_
 intro r12 hs12
 refine hK13 _ _ ?_
 refine gv (qt_eql rfl rfl rfl) ?_
 refine gnt (hK11 _ _ ?_)
 refine gc_cond rfl (fun hc0 => ?_) (fun hc0 => ?_)
 ·try simp only [sA] at hc0
  refine gc_sr fun K14 hK14 => ?_
  refine gm ?_
  refine gv (qts Try.underlying27 (n := 7)) ?_
  refine gop fun K16 hK16 => ?_
  refine go_callMH (P := DrawP) rfl rfl rfl Try.func133 rfl (by decide) rfl rfl (fun w M => specBend_any _ w ca cl cc g _ hI _ _ _ _ _ _ _ _ _ (fun w S h => star_rdC 2 3 4 5 rfl rfl rfl rfl h) hsome.1 M) ?_
  intro bz15 ba15 bb15 bc15 bd15 be15 bf15 bg15 bh15 hdraw
  refine hK16 _ _ ?_
  refine gop fun K17 hK17 => ?_
  refine go_storeS (n := 2) rfl rfl rfl rfl (by kernel_rfl) rfl rfl rfl ?_
  refine hK17 _ _ ?_
  refine gnt (hK14 _ _ ?_)
  refine gc_ret ?_
  refine gk_then_ret ?_
  refine ret_S (n := 2) rfl rfl Try.underlying27 rfl (by kernel_rfl) rfl (fun w M => ?_)
  exact ⟨_, _, hdraw, rfl, mem_take 3 (mem_pick (n := 2) (mem_pick (n := 2) (mem_pick (n := 8) (M) rfl) rfl) rfl)⟩
 ·try simp only [sA] at hc0
  refine gc_skip ?_
  refine gk_then (hK10 _ _ ?_)
  refine gc_sr fun K18 hK18 => ?_
  refine gv (qts Try.underlying27 (n := 7)) ?_
  refine gop fun K19 hK19 => ?_
  refine go_storeS (n := 2) rfl rfl rfl rfl (by kernel_rfl) rfl rfl rfl ?_
  refine hK19 _ _ ?_
  refine gnt (hK18 _ _ ?_)
  refine gc_ret ?_
  refine ret_S (n := 2) rfl rfl Try.underlying27 rfl (by kernel_rfl) rfl (fun w M => ?_)
  exact ⟨_, _, draw_of hsome.1, rfl, mem_packH [_, _] (mem_take 6 (mem_pick (n := 5) (mem_pick (n := 5) (mem_pick (n := 6) (mem_pick (n := 6) (mem_pick (n := 6) (mem_pick (n := 6) (M) rfl) rfl) rfl) rfl) rfl) rfl))⟩
end Go.Proofs.Ytpfcfhjpgngneac
set_option linter.unusedSimpArgs false
set_option linter.unusedVariables false
set_option linter.unusedSectionVars false
namespace Go.Proofs.Ytpfcfhjpgngneac
open Go.RowKit
def NumP (r : Int) : Prop := -9223372036854775808 ≤ r ∧ r ≤ 9223372036854775807
set_option maxHeartbeats 1000000 in
set_option maxRecDepth 100000 in
theorem specDraw5_any (w0 w : World) (ca : Option Addr) (cl cc g : Nat) (F : List Itm) (hI : InB w0 (.slice ca cl cc)) (M : Mem w0 w [srcI ca cl cc g, tailI F]) :
  Calls Try.prog 62 #[.pointer (some ⟨g, 0, none⟩)] w (RetMHV w0 (srcI ca cl cc g) F (fun c (x : Int) => DrawP c ∧ NumP x) (fun x v => .tuple #[v, .int .i64 x])) := by
 go_enter Try.func62, Try.ntmps62
 refine gc_enterM M (N := 23) rfl (look_cons (k := 0) rfl (look_nil _)) ?_
 clear M
 refine gc_sr fun K1 hK1 => ?_
 refine gop fun K3 hK3 => ?_
 refine go_alloc (z := (.agg #[.int .i64 0, .slice none 0 0, .slice none 0 0, .slice none 0 0, .slice none 0 0])) (cs := [.int .i64 0, .slice none 0 0, .slice none 0 0, .slice none 0 0, .slice none 0 0]) rfl rfl rfl (fun w => by kernel_rfl) rfl ?_
 intro B2
 refine hK3 _ _ ?_
 refine gas ?_
 refine gnt (hK1 _ _ ?_)
 refine gc_sr fun K4 hK4 => ?_
 refine gm ?_
 refine gop fun K6 hK6 => ?_
 refine go_callMH (P := DrawP) rfl rfl rfl Try.func72 rfl (by decide) rfl rfl (fun w M => specDraw_any _ w ca cl cc g _ hI _ _ (by decide) (by decide) M) ?_
 intro cz5 ca5 cb5 cc5 cd5 ce5 cf5 cg5 ch5 hdraw
 refine hK6 _ _ ?_
 refine gop fun K8 hK8 => ?_
 refine go_alloc (z := (.agg #[.int .i64 0, .slice none 0 0, .slice none 0 0, .slice none 0 0, .slice none 0 0])) (cs := [.int .i64 0, .slice none 0 0, .slice none 0 0, .slice none 0 0, .slice none 0 0]) rfl rfl rfl (fun w => by kernel_rfl) rfl ?_
 intro B7
 refine hK8 _ _ ?_
 refine gop fun K9 hK9 => ?_
 refine go_storeS (n := 4) rfl rfl rfl rfl (by kernel_rfl) rfl rfl rfl ?_
 refine hK9 _ _ ?_
 refine gnt (hK4 _ _ ?_)
 refine gc_seq fun K10 hK10 => ?_
 have hdd := hdraw; obtain ⟨q1, q2, q3, q4, q5, q6⟩ := hdd
 refine gc_region ?_
 refine gv (qtf Try.underlying27 (z := 0) (off := 1)) ?_
 refine gv (qtl Try.underlying24 (n := 4)) ?_
 refine gv (qln (fun w M => lenV_rd (RdC.l1 (mem_held (n := 3) M rfl)))) ?_
 refine gas ?_
 refine gnt (hK10 _ _ ?_)
 refine gc_seq fun K11 hK11 => ?_
 refine gc_sr fun K12 hK12 => ?_
 refine gm ?_
 refine gop fun K14 hK14 => ?_
 refine go_srcNext (n := 0) rfl rfl rfl Try.func71 rfl (by decide) rfl hI rfl (by omega) ?_
 intro r13 hs13
 refine hK14 _ _ ?_
 refine gv (qt_eql rfl rfl rfl) ?_
 refine gnt (hK12 _ _ ?_)
 refine gc_cond rfl (fun hc0 => ?_) (fun hc0 => ?_)
 ·try simp only [sA] at hc0
  refine gc_seq fun K15 hK15 => ?_
  try simp only [sL]
  refine ga_start _ (fun w M => mem_erase 0 (mem_erase 2 (M))) ?_
  refine gav 0 rfl (qts Try.underlying27 (n := 2)) ?_
  refine gav 1 rfl (qt_move rfl rfl) ?_
  refine gav 2 rfl (qt_move rfl rfl) ?_
  refine gao 3 fun K17 hK17 => ?_
  refine go_slice4I rfl rfl rfl rfl rfl rfl rfl Try.underlying24 ?_
  intro B16
  refine hK17 _ _ (fun w M => (mem_erase 0 (mem_erase 2 (mem_take 5 M)) :)) ?_
  refine gao 4 fun K19 hK19 => ?_
  refine go_srcPick (n := 0) (m := 5) rfl rfl rfl Try.func123 rfl (by decide) rfl hI rfl rfl (by decide) (by simp) ?_
  intro r18 hs18; simp only [List.mem_cons, List.not_mem_nil, or_false] at hs18
  refine hK19 _ _ (fun w M => (mem_erase 0 (mem_erase 2 (mem_take 5 M)) :)) ?_
  refine gao 5 fun K20 hK20 => ?_
  refine go_storeS (n := 2) rfl rfl rfl rfl (by kernel_rfl) rfl rfl rfl ?_
  refine hK20 _ _ (fun w M => (mem_erase 0 (mem_erase 2 (mem_take 5 M)) :)) ?_
  refine gav 6 rfl (qt_assign rfl rfl) ?_
  refine ga_done (by kernel_rfl) ?_
  refine gk_then (hK15 _ _ ?_)
  refine gc_ret ?_
  refine gk_then_ret ?_
  refine ret_SI (n := 2) rfl rfl rfl Try.underlying27 rfl (by kernel_rfl) rfl (fun w M => ?_)
  exact ⟨_, _, _, ⟨hdraw, by omega, by omega⟩, rfl, mem_take 3 (mem_pick (n := 2) (mem_pick (n := 2) (mem_pick (n := 3) (M) rfl) rfl) rfl)⟩
 ·try simp only [sA] at hc0
  refine gc_skip ?_
  refine gk_then (hK11 _ _ ?_)
  refine gc_seq fun K21 hK21 => ?_
  try simp only [sL]
  refine ga_start _ (fun w M => mem_erase 0 (mem_erase 2 (M))) ?_
  refine gav 0 rfl (qts Try.underlying27 (n := 2)) ?_
  refine gav 1 rfl (qt_move rfl rfl) ?_
  refine gav 2 rfl (qt_move rfl rfl) ?_
  refine gao 3 fun K23 hK23 => ?_
  refine go_srcNext (n := 0) rfl rfl rfl Try.func71 rfl (by decide) rfl hI rfl (by omega) ?_
  intro r22 hs22
  refine hK23 _ _ (fun w M => (mem_erase 0 (mem_erase 2 (mem_take 5 M)) :)) ?_
  refine gao 4 fun K24 hK24 => ?_
  refine go_storeS (n := 2) rfl rfl rfl rfl (by kernel_rfl) rfl rfl rfl ?_
  refine hK24 _ _ (fun w M => (mem_erase 0 (mem_erase 2 (mem_take 5 M)) :)) ?_
  refine gav 5 rfl (qt_assign rfl rfl) ?_
  refine ga_done (by kernel_rfl) ?_
  refine gk_then (hK21 _ _ ?_)
  refine gc_ret ?_
  refine ret_SI (n := 2) rfl rfl rfl Try.underlying27 rfl (by kernel_rfl) rfl (fun w M => ?_)
  exact ⟨_, _, _, ⟨hdraw, by omega, by omega⟩, rfl, mem_take 3 (mem_pick (n := 2) (mem_pick (n := 2) (mem_pick (n := 3) (M) rfl) rfl) rfl)⟩
end Go.Proofs.Ytpfcfhjpgngneac
set_option linter.unusedSimpArgs false
set_option linter.unusedVariables false
set_option linter.unusedSectionVars false
namespace Go.Proofs.Ytpfcfhjpgngneac
open Go.RowKit
def RetHV {α : Type} (W : World) (P : Cat → α → Prop) (V : α → Value → Value) (e : Ending) (w' : World) : Prop := ∃ (c : Cat) (v : Value) (x : α), P c x ∧ e = .returned (V x v) ∧ Below W.heap.size W w' ∧ (heldI fun w => RdC w v c).p w' (fun k => W.heap.size ≤ k)
theorem mem_heldP {w0 w : World} {is : List Itm} {n : Nat} {φ : World → Prop} (M : Mem w0 w is) (h : is[n]? = some (heldI φ)) : (heldI φ).p w (fun k => w0.heap.size ≤ k) := by
 obtain ⟨S, hS, hb⟩ := mem_get M h
 exact (held_loc φ).keep (fun k _ hk => hS k hk) agree_refl hb
section
variable {w0 : World} {is : List Itm} {Q : Exit → Act → World → Prop} {o : Oper} {N : Nat} {e : Env} {d : Nat} {K : Act → World → Prop} {f : FuncId} {fn : Func} {ags : Array Operand} {ts : Array TypeId} {vs : List Value}
theorem go_callHV {α : Type} {P : Cat → α → Prop} {V : α → Value → Value} (hd : o.dst = some d) (hN : Nat.blt d N = true) (hop : o.op = .call { callee := .value (.func f), args := ags, argTypes := ts }) (hfn : Try.prog.funcs[f]? = some fn) (hb : fn.body.isNone = false) (hn : (fn.name == "runtime.NumGoroutine") = false)
  (hargs : evoL e ags.toList = some vs) (hc : ∀ w, Mem w0 w is → Calls Try.prog f vs.toArray w (RetHV w P V))
  (hk : ∀ (c : Cat) (x : α) (a1 a2 a3 a4 : Option Addr) (k1 k2 k3 k4 : Nat), P c x → GK w0 (is ++ [heldI fun w => RdC w (.agg #[.int .i64 c.ob, .slice a1 c.s.length k1, .slice a2 c.t.length k2, .slice a3 c.e.length k3, .slice a4 c.m.length k4]) c]) N K ((d, V x (.agg #[.int .i64 c.ob, .slice a1 c.s.length k1, .slice a2 c.t.length k2, .slice a3 c.e.length k3, .slice a4 c.m.length k4])) :: e)) : GO w0 is N o e Q K := by
 intro w a M G
 refine go_call hd hN G hop hfn hb hn hargs (hc w M) fun e' w' hR => ?_
 obtain ⟨c, v, x, hP, rfl, hbl, hp⟩ := hR
 obtain ⟨a1, a2, a3, a4, k1, k2, k3, k4, rfl, _⟩ := ((hp : ∀ w2, Agree _ w' w2 → RdC w2 v c) w' agree_refl).lists
 exact ⟨_, rfl, fun a G => hk c x a1 a2 a3 a4 k1 k2 k3 k4 hP w' a (mem_new M hbl hp) G⟩
end
set_option maxHeartbeats 1000000 in
set_option maxRecDepth 100000 in
theorem drawInverseArrow_any (w : World) (ca : Option Addr) (clen ccap : Nat) (h : InB w (.slice ca clen ccap)) :
  Calls Try.prog 12 #[.slice ca clen ccap] w (RetHV w (fun c (x : Int) => DrawP c ∧ NumP x) (fun x v => .tuple #[v, .int .i64 x])) := by
 go_enter Try.func12, Try.ntmps12
 refine gc_enter (N := 9) rfl (look_cons (k := 0) rfl (look_nil _)) ?_
 refine gc_sr fun K1 hK1 => ?_
 refine gop fun K3 hK3 => ?_
 refine go_alloc (z := (.agg #[.int .i64 0, .slice none 0 0, .slice none 0 0, .slice none 0 0, .slice none 0 0])) (cs := [.int .i64 0, .slice none 0 0, .slice none 0 0, .slice none 0 0, .slice none 0 0]) rfl rfl rfl (fun w => by kernel_rfl) rfl ?_
 intro B2
 refine hK3 _ _ ?_
 refine gas ?_
 refine gnt (hK1 _ _ ?_)
 refine gc_sr fun K4 hK4 => ?_
 refine gm ?_
 refine gop fun K6 hK6 => ?_
 refine go_srcFrom rfl rfl rfl Try.func63 rfl (by decide) rfl h ?_
 intro g; refine gk_pickL [1, 0] ?_
 refine hK6 _ _ ?_
 refine gop fun K8 hK8 => ?_
 refine go_callMHV (α := Int) (P := fun c x => DrawP c ∧ NumP x) (V := fun x v => .tuple #[v, .int .i64 x]) rfl rfl rfl Try.func62 rfl (by decide) rfl rfl (fun w M => specDraw5_any _ w ca clen ccap g _ h M) ?_
 intro cz x ca1 cb1 cc1 cd1 ce1 cf1 cg1 ch1 hdraw
 refine hK8 _ _ ?_
 refine gv (qt_extract rfl rfl rfl) ?_
 refine gv (qt_extract rfl rfl rfl) ?_
 refine gop fun K9 hK9 => ?_
 refine go_storeS (n := 1) rfl rfl rfl rfl (by kernel_rfl) rfl rfl rfl ?_
 refine hK9 _ _ ?_
 refine gas ?_
 refine gnt (hK4 _ _ ?_)
 refine gc_ret ?_
 refine ret_SI (n := 1) rfl rfl rfl Try.underlying27 rfl (by kernel_rfl) rfl (fun w M => ?_)
 exact ⟨_, _, _, hdraw, rfl, M.1, mem_heldP (n := 2) M rfl⟩
end Go.Proofs.Ytpfcfhjpgngneac
set_option linter.unusedSimpArgs false
set_option linter.unusedVariables false
set_option linter.unusedSectionVars false
namespace Go.Proofs.Ytpfcfhjpgngneac
open Go.RowKit
def RetIB (W : World) (n : Int) (b : Bool) (e : Ending) (w' : World) : Prop := e = .returned (.tuple #[.int .i64 n, .bool b]) ∧ Below W.heap.size W w'
noncomputable def invZ (c : Cat) (f : Int) : Int := bif bP (hasInv c f) then findGo c f (homTo c (at0 c.t f) (at0 c.s f) c.s.length) else 0
theorem invZ_t {c : Cat} {f : Int} (h : hasInv c f) : invZ c f = findGo c f (homTo c (at0 c.t f) (at0 c.s f) c.s.length) := by unfold invZ; rw [bP_t h]; rfl
theorem invZ_f {c : Cat} {f : Int} (h : ¬ hasInv c f) : invZ c f = 0 := by unfold invZ; rw [bP_f h]; rfl
set_option maxHeartbeats 1000000 in
set_option maxRecDepth 100000 in
theorem inverse_any (w : World) (v : Value) (c : Cat) (f : Int) (h : RdC w v c) (hS : ShapeP c) (f0 : 0 ≤ f) (f1 : f < c.s.length) :
  Calls Try.prog 65 #[v, .int .i64 f] w (RetIB w (invZ c f) (bP (hasInv c f))) := by
 have h0 := h
 obtain ⟨va, vb, vc, vd, ve, vf, vg, vh, rfl, h1, h2, h3, h4, _⟩ := h.lists
 have hf := arrP hS f0 f1
 have e1 := hf.fs; have e2 := hf.ft; have e3 := hf.fm; have e4 := hf.s0; have e5 := hf.s1; have e6 := hf.t0; have e7 := hf.t1; have e8 := hf.row
 have hn40 := hS.n40; have htl := hS.tl; have hel := hS.el
 have hl := homTo_len c (at0 c.t f) (at0 c.s f) c.s.length
 go_enter Try.func65, Try.ntmps65
 refine gc_enter (N := 41) rfl (look_cons (k := 0) rfl (look_cons (k := 1) rfl (look_nil _))) ?_
 refine gc_sr fun K1 hK1 => ?_
 refine gop fun K3 hK3 => ?_
 refine go_box rfl rfl rfl rfl rfl ?_
 intro B2
 refine hK3 _ _ ?_
 refine gas ?_
 refine gas ?_
 refine gnt (hK1 _ _ ?_)
 refine gc_seq fun K4 hK4 => ?_
 refine gc_seq fun K5 hK5 => ?_
 try simp only [sL]
 refine ga_start _ (fun w M => M) ?_
 refine gav 0 rfl (qts Try.underlying27 (n := 0)) ?_
 refine gav 1 rfl (qtf Try.underlying27 (z := 0) (off := 2)) ?_
 refine gav 2 rfl (qtl Try.underlying24 (n := 0)) ?_
 refine gav 3 rfl (qt_move rfl rfl) ?_
 refine gav 4 rfl (qti (fun w M => lenA_rd h2)) ?_
 refine gav 5 rfl (qtd (fun w M => mem_rd M h2)) ?_
 refine gav 6 rfl (qtf Try.underlying27 (z := 0) (off := 1)) ?_
 refine gav 7 rfl (qtl Try.underlying24 (n := 0)) ?_
 refine gav 8 rfl (qt_move rfl rfl) ?_
 refine gav 9 rfl (qti (fun w M => lenA_rd h1)) ?_
 refine gav 10 rfl (qtd (fun w M => mem_rd M h1)) ?_
 refine gav 11 rfl (qt_build rfl rfl bt_arrowEnds) ?_
 refine gav 14 rfl (qt_move rfl rfl) ?_
 refine gao 12 fun K7 hK7 => ?_
 refine go_callL rfl rfl rfl Try.func125 rfl (by decide) rfl (fun w M => arrowsBetween_any w _ _ _ _ (mem_rdC M h0) (by first | assumption | omega)) ?_
 intro va6 vc6
 refine hK7 _ _ (fun w M => (mem_take 1 M :)) ?_
 refine gao 13 fun K8 hK8 => ?_
 refine gov (qln (fun w M => lenV_own1 (n := 1) rfl M)) ?_
 refine hK8 _ _ (fun w M => (mem_take 1 M :)) ?_
 refine ga_done (by kernel_rfl) ?_
 refine gk_then (hK5 _ _ ?_)
 refine gc_block ?_
 try simp only [sL]
 refine gc_loopT ([(0, _), (1, _), (2, _), (20, _), (21, _)] : Env) (fun s : Nat => (fun (k : Nat) => (([(22, .int .i64 (k : Int))] : Env), ([] : List (Nat × Itm)), k ≤ (homTo c (at0 c.t f) (at0 c.s f) c.s.length).length ∧ findGo c f ((homTo c (at0 c.t f) (at0 c.s f) c.s.length).drop k) = findGo c f (homTo c (at0 c.t f) (at0 c.s f) c.s.length), (homTo c (at0 c.t f) (at0 c.s f) c.s.length).length - k)) s) (0) (by repeat first | exact sub_nil | refine sub_cons rfl ?_) rfl ⟨Nat.zero_le _, rfl⟩ ?_
 rintro k hinv KL9 hKL9
 simp only [sU, sL] at hinv hKL9 ⊢
 obtain ⟨hk, hgo⟩ := hinv
 refine gc_sr fun K10 hK10 => ?_
 refine gv (qt_lss rfl rfl rfl) ?_
 refine gnt (hK10 _ _ ?_)
 refine gc_seq fun K11 hK11 => ?_
 refine gc_cond rfl (fun hc0 => ?_) (fun hc0 => ?_)
 ·try simp only [sA] at hc0
  refine gc_skip ?_
  refine gk_then (hK11 _ _ ?_)
  refine gc_seq fun K12 hK12 => ?_
  refine gc_block ?_
  refine gc_sr fun K13 hK13 => ?_
  refine gv (qti (fun w M => lenA_own1 (n := 1) rfl M)) ?_
  refine gv (qtd (fun w M => (mem_own1 (n := 1) M rfl).rd)) ?_
  refine gas ?_
  refine gnt (hK13 _ _ ?_)
  refine gc_seq fun K14 hK14 => ?_
  have hg := homTo_at (c := c) (x := at0 c.t f) (y := at0 c.s f) (n := c.s.length) (k := k) (by omega)
  have hA := arrP hS hg.1 hg.2.1
  have a1 := hA.f0; have a2 := hA.fs; have a3 := hA.fm; have a4 := hA.row
  refine gc_draw (by kernel_rfl) ?_
  refine gdv (qts Try.underlying27 (n := 0)) ?_
  refine gdv (qt_move rfl rfl) ?_
  refine gdv (qt_move rfl rfl) ?_
  refine gd_q (.free rfl) rfl rfl (qt_call rfl Try.func75 rfl (by decide) rfl (fun w M => then_any w _ _ _ _ (mem_rdC M h0) (by first | assumption | omega) (by first | assumption | omega) (by first | assumption | omega) (by first | assumption | omega))) ?_
  refine gdv (qts Try.underlying27 (n := 0)) ?_
  refine gdv (qt_move rfl rfl) ?_
  refine gdv (qt_move rfl rfl) ?_
  refine gd_q (.free rfl) rfl rfl (qt_call rfl Try.func75 rfl (by decide) rfl (fun w M => then_any w _ _ _ _ (mem_rdC M h0) (by first | assumption | omega) (by first | assumption | omega) (by first | assumption | omega) (by first | assumption | omega))) ?_
  refine gdv (qt_build rfl rfl bt_arrowPair) ?_
  refine gdv (qts Try.underlying27 (n := 0)) ?_
  refine gdv (qt_move rfl rfl) ?_
  refine gd_q (.free rfl) rfl rfl (qt_call rfl Try.func126 rfl (by decide) rfl (fun w M => units_any w _ _ _ (mem_rdC M h0) (hf))) ?_
  refine gdv (qt_eqA rfl rfl rfl (fun w => eqA_arrowPair _ _ _ _ w) eqG_arrowPair) ?_
  refine gd_nil ?_
  refine gk_then (hK14 _ _ ?_)
  refine gc_cond rfl (fun hc1 => ?_) (fun hc1 => ?_)
  ·try simp only [sA] at hc1
   refine gc_sr fun K15 hK15 => ?_
   refine gm ?_
   refine gas ?_
   refine gas ?_
   refine gnt (hK15 _ _ ?_)
   refine gc_ret ?_
   refine gk_block_ret ?_
   refine gk_then_ret ?_
   refine gk_then_ret ?_
   refine gk_block_ret ?_
   refine gk_then_ret ?_
   refine ret_2 rfl rfl rfl  (fun w M => ?_)
   have hh : hasInv c f := ⟨_, by rw [at0_nat]; exact mem_getD (by omega), hc1⟩
   rw [bP_t hh, invZ_t hh, ← hgo, findGo_t (by omega) hc1]; exact ⟨rfl, M.1⟩
  ·try simp only [sA] at hc1
   refine gc_skip ?_
   refine gk_block ?_
   refine gk_then (hK12 _ _ ?_)
   refine gc_region ?_
   refine gv (qt_add rfl rfl rfl (by omega)) ?_
   refine gm ?_
   refine g_nil ?_
   refine gk_then (gk_take 2 ?_)
   refine gk_sub ?hs_16 (hKL9 (k + 1) ?hi_16 ?hm_16)
   case hs_16 => repeat first | exact sub_nil | refine sub_cons rfl ?_
   case hi_16 => exact ⟨by omega, by rw [← hgo, findGo_f (by omega) hc1]⟩
   case hm_16 => omega
 ·try simp only [sA] at hc0
  refine gc_exit ?_
  refine gk_then_exit ?_
  refine gk_then_exit ?_
  refine gk_block_hit ?_
  refine gk_then (hK4 _ _ ?_)
  refine gc_sr fun K17 hK17 => ?_
  refine gas ?_
  refine gas ?_
  refine gnt (hK17 _ _ ?_)
  refine gc_ret ?_
  refine ret_2 rfl rfl rfl  (fun w M => ?_)
  obtain rfl : k = (homTo c (at0 c.t f) (at0 c.s f) c.s.length).length := by omega
  have hno : ¬ hasInv c f := inv_neg.1 (by rw [← hgo, findGo_end]; decide)
  rw [bP_f hno, invZ_f hno]; exact ⟨rfl, M.1⟩
end Go.Proofs.Ytpfcfhjpgngneac
set_option linter.unusedSimpArgs false
set_option linter.unusedVariables false
set_option linter.unusedSectionVars false
namespace Go.Proofs.Ytpfcfhjpgngneac
open Go.RowKit
def bef (c : Cat) (f : Int) : Int → Int := fun g => c.th g f
def beh (c : Cat) (f : Int) : Int → Int := fun g => c.th f g
noncomputable def solL (φ : Int → Int) (v : Int) (k : Nat) : List Int := filTo (fun g => φ (g : Int) = v) (fun g => (g : Int)) k
theorem sol_t {φ : Int → Int} {v : Int} {k : Nat} (h : φ (k : Int) = v) : solL φ v k ++ [(k : Int)] = solL φ v (k + 1) := filTo_t (p := fun g => φ (g : Int) = v) h
theorem sol_f {φ : Int → Int} {v : Int} {k : Nat} (h : ¬ φ (k : Int) = v) : solL φ v k = solL φ v (k + 1) := filTo_f (p := fun g => φ (g : Int) = v) h
theorem sol_len (φ : Int → Int) (v : Int) (k : Nat) : (solL φ v k).length ≤ k := filTo_len _ _ _
theorem sol_zero (φ : Int → Int) (v : Int) : solL φ v 0 = [] := rfl
theorem sol_mem {φ : Int → Int} {v : Int} {k : Nat} {x : Int} : x ∈ solL φ v k ↔ ∃ j : Nat, j < k ∧ φ (j : Int) = v ∧ (j : Int) = x := filTo_mem
noncomputable def retL (c : Cat) (f : Int) : List Int := solL (beh c f) (at0 c.e (at0 c.s f)) c.s.length
noncomputable def secL (c : Cat) (f : Int) : List Int := solL (bef c f) (at0 c.e (at0 c.t f)) c.s.length
theorem mem_atK {xs : List Int} {x : Int} (h : x ∈ xs) : ∃ j : Nat, j < xs.length ∧ at0 xs (j : Int) = x := by
  obtain ⟨j, hj, rfl⟩ := List.getElem_of_mem h
  exact ⟨j, hj, by rw [at0_nat, List.getD_eq_getElem?_getD, List.getElem?_eq_getElem hj]; rfl⟩
theorem th_m1 {c : Cat} (hS : ShapeP c) {f g : Int} (f0 : 0 ≤ f) (f1 : f < c.s.length) (g0 : 0 ≤ g) (g1 : g < c.s.length) (h : c.th f g ≠ -1) : at0 c.t f = at0 c.s g :=
  Classical.byContradiction fun hn => h ((th_none hS f0 f1 g0 g1).2 hn)
theorem ret_iff {c : Cat} (hS : ShapeP c) {f g : Int} (f0 : 0 ≤ f) (f1 : f < c.s.length) (g0 : 0 ≤ g) (g1 : g < c.s.length) :
    (at0 c.s g = at0 c.t f ∧ at0 c.t g = at0 c.s f ∧ c.th f g = at0 c.e (at0 c.s f)) ↔ beh c f g = at0 c.e (at0 c.s f) := by
  refine ⟨fun h => h.2.2, fun h => ?_⟩
  have hA := arrP hS f0 f1
  have hi := hS.idn (x := at0 c.s f) hA.s0 (by have := hA.s1; have := hS.el; omega)
  have h' : c.th f g = at0 c.e (at0 c.s f) := h
  have he := th_m1 hS f0 f1 g0 g1 (by rw [h']; have := hi.1; omega)
  have ht := th_ends hS f0 f1 g0 g1 he
  rw [h'] at ht
  exact ⟨he.symm, by rw [← ht.2.2, hi.2.2.2], h'⟩
theorem sec_iff {c : Cat} (hS : ShapeP c) {f g : Int} (f0 : 0 ≤ f) (f1 : f < c.s.length) (g0 : 0 ≤ g) (g1 : g < c.s.length) :
    (at0 c.s g = at0 c.t f ∧ at0 c.t g = at0 c.s f ∧ c.th g f = at0 c.e (at0 c.t f)) ↔ bef c f g = at0 c.e (at0 c.t f) := by
  refine ⟨fun h => h.2.2, fun h => ?_⟩
  have hA := arrP hS f0 f1
  have hi := hS.idn (x := at0 c.t f) hA.t0 (by have := hA.t1; have := hS.el; omega)
  have h' : c.th g f = at0 c.e (at0 c.t f) := h
  have he := th_m1 hS g0 g1 f0 f1 (by rw [h']; have := hi.1; omega)
  have ht := th_ends hS g0 g1 f0 f1 he
  rw [h'] at ht
  exact ⟨by rw [← ht.2.1, hi.2.2.1], he, h'⟩
theorem assocI {c : Cat} (hC : IsCat c) {f g h : Int} (f0 : 0 ≤ f) (f1 : f < c.s.length) (g0 : 0 ≤ g) (g1 : g < c.s.length) (h0 : 0 ≤ h) (h1 : h < c.s.length) (e1 : at0 c.t f = at0 c.s g) (e2 : at0 c.t g = at0 c.s h) : c.th (c.th f g) h = c.th f (c.th g h) := by
  obtain ⟨a, rfl⟩ := Int.eq_ofNat_of_zero_le f0
  obtain ⟨b, rfl⟩ := Int.eq_ofNat_of_zero_le g0
  obtain ⟨d, rfl⟩ := Int.eq_ofNat_of_zero_le h0
  have := hC.assoc a b d (by omega) (by omega) (by omega)
  exact Classical.byContradiction fun hn => this ⟨e1, e2, hn⟩
theorem unitL {c : Cat} (hC : IsCat c) {f : Int} (f0 : 0 ≤ f) (f1 : f < c.s.length) : c.th (at0 c.e (at0 c.s f)) f = f ∧ c.th f (at0 c.e (at0 c.t f)) = f := by
  obtain ⟨a, rfl⟩ := Int.eq_ofNat_of_zero_le f0
  exact hC.idl a (by omega)
theorem inv_uniq {c : Cat} (hC : IsCat c) {f g h : Int} (f0 : 0 ≤ f) (f1 : f < c.s.length) (g0 : 0 ≤ g) (g1 : g < c.s.length) (h0 : 0 ≤ h) (h1 : h < c.s.length) (s1 : at0 c.s g = at0 c.t f) (t1 : at0 c.t g = at0 c.s f) (s2 : at0 c.s h = at0 c.t f) (t2 : at0 c.t h = at0 c.s f)
    (e1 : c.th g f = at0 c.e (at0 c.t f)) (e2 : c.th f h = at0 c.e (at0 c.s f)) : g = h := by
  have a := assocI hC g0 g1 f0 f1 h0 h1 t1 s2.symm
  rw [e1, e2] at a
  have u1 := (unitL hC h0 h1).1
  have u2 := (unitL hC g0 g1).2
  rw [s2] at u1; rw [t1] at u2
  rw [u1, u2] at a
  exact a.symm
theorem findGo_in {c : Cat} {f : Int} : ∀ {xs : List Int}, (∃ g ∈ xs, invAt c f g) → findGo c f xs ∈ xs ∧ invAt c f (findGo c f xs)
  | [], h => by obtain ⟨g, h, _⟩ := h; simp at h
  | g :: r, h => by
    by_cases hi : invAt c f g
    · have : findGo c f (g :: r) = g := if_pos hi
      rw [this]; exact ⟨List.mem_cons_self .., hi⟩
    · have : findGo c f (g :: r) = findGo c f r := if_neg hi
      rw [this]
      obtain ⟨x, hx, hx2⟩ := h
      have ih := findGo_in (c := c) (f := f) (xs := r) (by
        rcases List.mem_cons.1 hx with rfl | hx
        · exact absurd hx2 hi
        · exact ⟨x, hx, hx2⟩)
      exact ⟨List.mem_cons_of_mem _ ih.1, ih.2⟩
noncomputable def invN (c : Cat) (f : Int) : Int := findGo c f (homTo c (at0 c.t f) (at0 c.s f) c.s.length)
theorem invN_neg {c : Cat} {f : Int} : invN c f < 0 ↔ ¬ hasInv c f := inv_neg
theorem invN_in {c : Cat} {f : Int} (h : hasInv c f) : 0 ≤ invN c f ∧ invN c f < c.s.length ∧ at0 c.s (invN c f) = at0 c.t f ∧ at0 c.t (invN c f) = at0 c.s f ∧ invAt c f (invN c f) := by
  have := findGo_in h
  obtain ⟨j, h1, h2, h3, h4⟩ := mem_homTo.1 this.1
  exact ⟨by show 0 ≤ findGo _ _ _; omega, by show findGo _ _ _ < _; omega, by show at0 c.s (findGo _ _ _) = _; rw [h2]; exact h3, by show at0 c.t (findGo _ _ _) = _; rw [h2]; exact h4, this.2⟩
theorem hasInv_of {c : Cat} {f g : Int} (g0 : 0 ≤ g) (g1 : g < c.s.length) (h1 : at0 c.s g = at0 c.t f) (h2 : at0 c.t g = at0 c.s f) (h : invAt c f g) : hasInv c f := by
  obtain ⟨j, rfl⟩ := Int.eq_ofNat_of_zero_le g0
  exact ⟨j, mem_homTo.2 ⟨j, by omega, rfl, h1, h2⟩, h⟩
theorem invN_eq {c : Cat} (hC : IsCat c) {f g : Int} (f0 : 0 ≤ f) (f1 : f < c.s.length) (g0 : 0 ≤ g) (g1 : g < c.s.length) (h1 : at0 c.s g = at0 c.t f) (h2 : at0 c.t g = at0 c.s f) (h : invAt c f g) : invN c f = g := by
  have hi := invN_in (hasInv_of g0 g1 h1 h2 h)
  exact inv_uniq hC f0 f1 hi.1 hi.2.1 g0 g1 hi.2.2.1 hi.2.2.2.1 h1 h2 hi.2.2.2.2.2 h.1
theorem both_inv {c : Cat} (hS : ShapeP c) {f g : Int} (f0 : 0 ≤ f) (f1 : f < c.s.length) (h1 : g ∈ retL c f) (h2 : g ∈ secL c f) : 0 ≤ g ∧ g < c.s.length ∧ at0 c.s g = at0 c.t f ∧ at0 c.t g = at0 c.s f ∧ invAt c f g := by
  obtain ⟨j, h3, h4, rfl⟩ := sol_mem.1 h1
  obtain ⟨i, h5, h6, h7⟩ := sol_mem.1 h2
  rw [h7] at h6
  have a := (ret_iff hS f0 f1 (g := (j : Int)) (by omega) (by omega)).2 h4
  have b := (sec_iff hS f0 f1 (g := (j : Int)) (by omega) (by omega)).2 h6
  exact ⟨by omega, by omega, a.1, a.2.1, a.2.2, b.2.2⟩
theorem inv_both {c : Cat} {f : Int} (h : hasInv c f) : ∃ g : Int, g ∈ retL c f ∧ g ∈ secL c f := by
  have hi := invN_in h
  obtain ⟨j, hj⟩ := Int.eq_ofNat_of_zero_le hi.1
  rw [hj] at hi
  exact ⟨j, sol_mem.2 ⟨j, by omega, hi.2.2.2.2.1, rfl⟩, sol_mem.2 ⟨j, by omega, hi.2.2.2.2.2, rfl⟩⟩
theorem invN_found {c : Cat} (hC : IsCat c) {f : Int} (f0 : 0 ≤ f) (f1 : f < c.s.length) {k : Nat} (hk : k < (retL c f).length) (h : at0 (retL c f) (k : Int) ∈ secL c f) : invN c f = at0 (retL c f) (k : Int) := by
  have hb := both_inv hC.toShapeP f0 f1 (at0_mem hk) h
  exact invN_eq hC f0 f1 hb.1 hb.2.1 hb.2.2.1 hb.2.2.2.1 hb.2.2.2.2
theorem invN_none {c : Cat} {f : Int} (h : ∀ j : Nat, j < (retL c f).length → ¬ at0 (retL c f) (j : Int) ∈ secL c f) : invN c f = -1 := by
  have hn : ¬ hasInv c f := fun hh => by
    obtain ⟨g, h1, h2⟩ := inv_both hh
    obtain ⟨j, hj, rfl⟩ := List.getElem_of_mem h1
    exact h j hj (by rw [at0_nat, List.getD_eq_getElem?_getD, List.getElem?_eq_getElem hj]; exact h2)
  have key : ∀ xs : List Int, (∀ g ∈ xs, ¬ invAt c f g) → findGo c f xs = -1 := by
    intro xs
    induction xs with
    | nil => intro _; rfl
    | cons g r ih =>
      intro h
      have : findGo c f (g :: r) = findGo c f r := if_neg (h g (List.mem_cons_self ..))
      rw [this]; exact ih fun x hx => h x (List.mem_cons_of_mem _ hx)
  exact key _ fun g hg hi => hn ⟨g, hg, hi⟩
noncomputable def fRetractionsOf (c : Cat) (f : Int) : List Int × Int := if arrErr c [f] = 0 then (retL c f, 0) else ([], arrErr c [f])
noncomputable def fSectionsOf (c : Cat) (f : Int) : List Int × Int := if arrErr c [f] = 0 then (secL c f, 0) else ([], arrErr c [f])
noncomputable def fInverseArrow (c : Cat) (f : Int) : Int × Int := if arrErr c [f] = 0 then (if bP (hasInv c f) = true then (invN c f, 0) else (0, 4)) else (0, arrErr c [f])
theorem RetractionsOf_e {c : Cat} {f : Int} (h : ¬ arrErr c [f] = 0) : fRetractionsOf c f = ([], arrErr c [f]) := if_neg h
theorem RetractionsOf_t {c : Cat} {f : Int} (h : arrErr c [f] = 0) : fRetractionsOf c f = (retL c f, 0) := if_pos h
theorem SectionsOf_e {c : Cat} {f : Int} (h : ¬ arrErr c [f] = 0) : fSectionsOf c f = ([], arrErr c [f]) := if_neg h
theorem SectionsOf_t {c : Cat} {f : Int} (h : arrErr c [f] = 0) : fSectionsOf c f = (secL c f, 0) := if_pos h
theorem InverseArrow_e {c : Cat} {f : Int} (h : ¬ arrErr c [f] = 0) : fInverseArrow c f = (0, arrErr c [f]) := if_neg h
theorem InverseArrow_n {c : Cat} {f : Int} (h : arrErr c [f] = 0) (h2 : bP (hasInv c f) = false) : fInverseArrow c f = (0, 4) := by unfold fInverseArrow; rw [if_pos h, if_neg (by rw [h2]; decide)]
theorem InverseArrow_t {c : Cat} {f : Int} (h : arrErr c [f] = 0) (h2 : bP (hasInv c f) = true) : fInverseArrow c f = (invN c f, 0) := by unfold fInverseArrow; rw [if_pos h, if_pos h2]
theorem inv_dec {c : Cat} {f : Int} : bP (hasInv c f) = decide (0 ≤ invN c f) := by
  rw [← bP_dec]; exact bP_congr ⟨fun h => (invN_in h).1, fun h => Classical.byContradiction fun hn => absurd (invN_neg.2 hn) (by omega)⟩
end Go.Proofs.Ytpfcfhjpgngneac
