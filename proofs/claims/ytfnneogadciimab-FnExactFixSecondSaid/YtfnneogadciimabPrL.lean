
/- Lists of what is combined of two lists, all with all or place by place: the program's and the model's; the closure that numbers pairs. -/
import Derived.Test.YtfnneogadciimabShort
import Derived.Test.YtfnneogadciimabFunM
set_option linter.unusedSimpArgs false
set_option linter.unusedVariables false
set_option linter.unusedSectionVars false
namespace Go.Proofs.Ytfnneogadciimab
open Go.RowKit


def prL (φ : Int → Int → Int) (xs ys : List Int) : List Int := tab2 (fun i j => φ (at0 xs (i : Int)) (at0 ys (j : Int))) ys.length xs.length 0
def zpL (φ : Int → Int → Int) (xs ys : List Int) : List Int := tabTo (fun i => φ (at0 xs (i : Int)) (at0 ys (i : Int))) xs.length
theorem prL_len (φ : Int → Int → Int) (xs ys : List Int) : (prL φ xs ys).length = ys.length * xs.length := tab2_len _ _ _ _
theorem zpL_len (φ : Int → Int → Int) (xs ys : List Int) : (zpL φ xs ys).length = xs.length := tabTo_len _ _
theorem mul_bnd {x n : Int} (x0 : 0 ≤ x) (x1 : x ≤ 100) (n0 : 0 ≤ n) (n1 : n ≤ 100) : 0 ≤ x * n ∧ x * n ≤ 10000 := ⟨Int.mul_nonneg x0 n0, by have := Int.mul_le_mul x1 n1 n0 (by omega : (0 : Int) ≤ 100); omega⟩
theorem mul_40 {m k : Nat} (h : m ≤ 40) (h' : k ≤ 40) : m * k ≤ 1600 := Nat.mul_le_mul h h'
theorem allP_100 {n : Int} {xs : List Int} (h : AllP n xs) (hn : n ≤ 100) : AllP 100 xs := fun x hx => ⟨(h x hx).1, by have := (h x hx).2; omega⟩
theorem mem_bxlo2 {w0 w : World} {is : List Itm} {n B : Nat} {t : TypeId} {cs : List Value} (M : Mem w0 w is) (h : is[n]? = some (bxI B t cs)) : Bx w B t cs ∧ w0.heap.size ≤ B := by
 obtain ⟨S, hS, hb, hs⟩ := mem_get M h
 exact ⟨hb, hS _ hs⟩
def RetPn (W : World) (n : Int) (e : Ending) (w' : World) : Prop := ∃ B : Nat, e = .returned (.func (.func 176) #[] #[.pointer (some ⟨B, 0, none⟩)]) ∧ (Bx w' B 2 [.int .i64 n] ∧ W.heap.size ≤ B) ∧ Below W.heap.size W w'
section
variable {w0 : World} {is : List Itm} {ops : Array Oper} {Q : Exit → Act → World → Prop} {o : Oper} {N : Frm} {e : Env} {v u : Value} {d : Nat} {K : Act → World → Prop} {f : FuncId} {fn : Func} {ags : Array Operand} {ts : Array TypeId} {vs : List Value}
theorem go_callPn {n : Int} (hd : o.dst = some d) (hN : Nat.blt d N = true) (hop : o.op = .call { callee := .value (.func f), args := ags, argTypes := ts }) (hfn : Try.prog.funcs[f]? = some fn) (hb : fn.body.isNone = false) (hn : (fn.name == "runtime.NumGoroutine") = false)
  (hargs : evoL e ags.toList = some vs) (hc : ∀ w, Mem w0 w is → Calls Try.prog f vs.toArray w (RetPn w n)) (hk : ∀ B : Nat, GK w0 (is ++ [bxI B 2 [.int .i64 n]]) N K ((d, .func (.func 176) #[] #[.pointer (some ⟨B, 0, none⟩)]) :: e)) : GO w0 is N o e Q K := by
 intro w a M F
 refine go_call hd hN F hop hfn hb hn hargs (hc w M) fun e' w' hR => ?_
 obtain ⟨B, rfl, hs, hbl⟩ := hR
 exact ⟨_, rfl, fun a F => hk B w' a (mem_new M hbl hs) F⟩
end

set_option maxHeartbeats 1000000 in
set_option maxRecDepth 100000 in
theorem pairN1_any (w : World) (a b : Int) (B : Nat) (n : Int) (hbB : BxV w B 2 (.agg [Value.int .i64 n].toArray)) (a0 : 0 ≤ a) (a1 : a ≤ 100) (b0 : 0 ≤ b) (b1 : b ≤ 100) (n0 : 0 ≤ n) (n1 : n ≤ 100) :
  Calls Try.prog 176 #[.int .i64 a, .int .i64 b, .pointer (some ⟨B, 0, none⟩)] w (RetI w (a * n + b)) := by
 have hm := mul_bnd a0 a1 n0 n1
 have m0 := hm.1; have m1 := hm.2
 go_enter Try.func176, Try.ntmps176
 refine gc_enter (N := 11) rfl (look_cons (k := 0) rfl (look_cons (k := 1) rfl (look_cons (k := 2) rfl (look_nil _)))) ?_
 refine gc_sr fun K1 hK1 => ?_
 refine gas ?_
 refine gnt (hK1 _ _ ?_)
 refine gc_sr fun K2 hK2 => ?_
 refine gm ?_
 refine gv (qt_loadRB hbB rfl rfl Try.underlying2 rfl rfl) ?_
 refine gv (qt_mul rfl rfl rfl (by omega)) ?_
 refine gm ?_
 refine gv (qt_add rfl rfl rfl (by omega)) ?_
 refine gas ?_
 refine gnt (hK2 _ _ ?_)
 refine gc_ret ?_
 refine ret_1 rfl rfl  (fun w M => ?_)
 exact ⟨rfl, M.1⟩

set_option maxHeartbeats 1000000 in
set_option maxRecDepth 100000 in
theorem pairNumber_any (w : World) (n : Int) :
  Calls Try.prog 149 #[.int .i64 n] w (RetPn w n) := by
 go_enter Try.func149, Try.ntmps149
 refine gc_enter (N := 4) rfl (look_cons (k := 0) rfl (look_nil _)) ?_
 refine gc_sr fun K1 hK1 => ?_
 refine gop fun K3 hK3 => ?_
 refine go_box rfl rfl rfl rfl rfl ?_
 intro B2
 refine hK3 _ _ ?_
 refine gas ?_
 refine gnt (hK1 _ _ ?_)
 refine gc_sr fun K4 hK4 => ?_
 refine gv (qt_makeF rfl rfl) ?_
 refine gas ?_
 refine gnt (hK4 _ _ ?_)
 refine gc_ret ?_
 refine ret_1 rfl rfl  (fun w M => ?_)
 exact ⟨_, rfl, mem_bxlo2 (n := 0) M rfl, M.1⟩


theorem tab2_step (φ : Nat → Nat → Int) {m a b : Nat} (h : b < m) : tab2 φ m a b ++ [φ a b] = tab2 φ m a (b + 1) := tab2_succ h

set_option maxHeartbeats 1000000 in
set_option maxRecDepth 100000 in
theorem combined_any (w : World) (v : Value) (xs : List Int) (u : Value) (ys : List Int) (hx : Rd w v xs) (hy : Rd w u ys) (xl : xs.length ≤ 40) (yl : ys.length ≤ 40) (g : Value) (φ : Int → Int → Int) (hg : ∀ w', Below w.heap.size w w' → ∀ i j : Nat, i < xs.length → j < ys.length → CallsV g [.int .i64 (at0 xs (i : Int)), .int .i64 (at0 ys (j : Int))] w' (RetI w' (φ (at0 xs (i : Int)) (at0 ys (j : Int))))) :
  Calls Try.prog 148 #[v, u, g] w (RetL w (prL φ xs ys)) := by
 obtain ⟨va, vc, rfl⟩ := rd_form hx
 obtain ⟨ua, uc, rfl⟩ := rd_form hy
 go_enter Try.func148, Try.ntmps148
 refine gc_enter (N := 34) rfl (look_cons (k := 0) rfl (look_cons (k := 1) rfl (look_cons (k := 2) rfl (look_nil _)))) ?_
 refine gc_sr fun K1 hK1 => ?_
 refine gas ?_
 refine gnt (hK1 _ _ ?_)
 refine gc_sr fun K2 hK2 => ?_
 refine gas ?_
 refine gnt (hK2 _ _ ?_)
 refine gc_seq fun K3 hK3 => ?_
 refine gc_sr fun K4 hK4 => ?_
 refine gm ?_
 refine gv (qln (fun w M => lenV_rd hx)) ?_
 refine gm ?_
 refine gnt (hK4 _ _ ?_)
 refine gc_block ?_
 refine gc_nilS ?_
 try simp only [sL]
 refine gc_loopT ([(0, _), (1, _), (2, _), (6, _), (12, _), (13, _)] : Env) (fun s : Nat × (Option Addr) × Nat => (fun (k : Nat) (a : Option Addr) (q : Nat) => (([(7, .slice a (tab2 (fun i j => φ (at0 xs (i : Int)) (at0 ys (j : Int))) ys.length k 0).length q), (14, .int .i64 (k : Int))] : Env), ([(0, own1I (.slice a (tab2 (fun i j => φ (at0 xs (i : Int)) (at0 ys (j : Int))) ys.length k 0).length q) (tab2 (fun i j => φ (at0 xs (i : Int)) (at0 ys (j : Int))) ys.length k 0))] : List (Nat × Itm)), k ≤ xs.length, xs.length - k)) s.1 s.2.1 s.2.2) (0, _, _) (by repeat first | exact sub_nil | refine sub_cons rfl ?_) rfl (Nat.zero_le _) ?_
 rintro ⟨k, a, q⟩ hinv KL5 hKL5
 simp only [sU, sL] at hinv hKL5 ⊢
 have hk := hinv
 have hl1 := tab2_len (fun i j => φ (at0 xs (i : Int)) (at0 ys (j : Int))) ys.length k 0
 have hm1 := mul_40 (m := ys.length) (k := k) yl (by omega)
 refine gc_sr fun K6 hK6 => ?_
 refine gv (qt_lss rfl rfl rfl) ?_
 refine gnt (hK6 _ _ ?_)
 refine gc_seq fun K7 hK7 => ?_
 refine gc_cond rfl (fun hc0 => ?_) (fun hc0 => ?_)
 ·try simp only [sA] at hc0
  refine gc_skip ?_
  refine gk_then (hK7 _ _ ?_)
  refine gc_seq fun K8 hK8 => ?_
  refine gc_block ?_
  refine gc_sr fun K9 hK9 => ?_
  refine gv (qti (fun w M => lenA_rd hx)) ?_
  refine gv (qtd (fun w M => mem_rd M hx)) ?_
  refine gas ?_
  refine gnt (hK9 _ _ ?_)
  refine gc_sr fun K10 hK10 => ?_
  refine gm ?_
  refine gv (qln (fun w M => lenV_rd hy)) ?_
  refine gm ?_
  refine gnt (hK10 _ _ ?_)
  refine gc_block ?_
  try simp only [sL]
  refine gc_loopT ([(0, _), (1, _), (2, _), (6, _), (9, _), (12, _), (13, _), (14, _), (15, _), (18, _), (19, _)] : Env) (fun s : Nat × (Option Addr) × Nat => (fun (j : Nat) (a : Option Addr) (q : Nat) => (([(7, .slice a (tab2 (fun i j => φ (at0 xs (i : Int)) (at0 ys (j : Int))) ys.length k j).length q), (20, .int .i64 (j : Int))] : Env), ([(0, own1I (.slice a (tab2 (fun i j => φ (at0 xs (i : Int)) (at0 ys (j : Int))) ys.length k j).length q) (tab2 (fun i j => φ (at0 xs (i : Int)) (at0 ys (j : Int))) ys.length k j))] : List (Nat × Itm)), j ≤ ys.length, ys.length - j)) s.1 s.2.1 s.2.2) (0, _, _) (by repeat first | exact sub_nil | refine sub_cons rfl ?_) rfl (Nat.zero_le _) ?_
  rintro ⟨j, a, q⟩ hinv KL11 hKL11
  simp only [sU, sL] at hinv hKL11 ⊢
  have hj := hinv
  have hl2 := tab2_len (fun i j => φ (at0 xs (i : Int)) (at0 ys (j : Int))) ys.length k j
  refine gc_sr fun K12 hK12 => ?_
  refine gv (qt_lss rfl rfl rfl) ?_
  refine gnt (hK12 _ _ ?_)
  refine gc_seq fun K13 hK13 => ?_
  refine gc_cond rfl (fun hc1 => ?_) (fun hc1 => ?_)
  ·try simp only [sA] at hc1
   refine gc_skip ?_
   refine gk_then (hK13 _ _ ?_)
   refine gc_seq fun K14 hK14 => ?_
   refine gc_block ?_
   refine gc_sr fun K15 hK15 => ?_
   refine gv (qti (fun w M => lenA_rd hy)) ?_
   refine gv (qtd (fun w M => mem_rd M hy)) ?_
   refine gas ?_
   refine gnt (hK15 _ _ ?_)
   refine gc_region ?_
   refine gm ?_
   refine gm ?_
   refine gm ?_
   refine gm ?_
   refine g_q (.free rfl) rfl rfl (qt_callV rfl rfl rfl (fun w M => hg w M.1 k j (by omega) (by omega))) ?_
   refine gop fun K17 hK17 => ?_
   refine go_slice1 rfl rfl rfl rfl Try.underlying22 ?_
   intro B16
   refine hK17 _ _ ?_
   refine gop fun K19 hK19 => ?_
   refine go_append (n := 0) (m := 1) rfl rfl rfl Try.underlying22 rfl rfl rfl rfl (by omega) ?_
   intro va18 vc18
   refine hK19 _ _ ?_
   refine gas ?_
   refine g_nil ?_
   refine gk_block ?_
   refine gk_then (hK14 _ _ ?_)
   refine gc_region ?_
   refine gv (qt_add rfl rfl rfl (by omega)) ?_
   refine gm ?_
   refine g_nil ?_
   simp only [tab2_step (fun i j => φ (at0 xs (i : Int)) (at0 ys (j : Int))) (show j < ys.length by omega)]
   refine gk_then (gk_take 1 ?_)
   refine gk_sub ?hs_20 (hKL11 (j + 1, _, _) ?hi_20 ?hm_20)
   case hs_20 => repeat first | exact sub_nil | refine sub_cons rfl ?_
   case hi_20 => omega
   case hm_20 => omega
  ·try simp only [sA] at hc1
   refine gc_exit ?_
   refine gk_then_exit ?_
   refine gk_then_exit ?_
   refine gk_block_hit ?_
   refine gk_block ?_
   refine gk_then (hK8 _ _ ?_)
   obtain rfl : j = ys.length := by omega
   refine gc_region ?_
   refine gv (qt_add rfl rfl rfl (by omega)) ?_
   refine gm ?_
   refine g_nil ?_
   rw [tab2_row]
   refine gk_then (gk_take 1 ?_)
   refine gk_sub ?hs_21 (hKL5 (k + 1, _, _) ?hi_21 ?hm_21)
   case hs_21 => repeat first | exact sub_nil | refine sub_cons rfl ?_
   case hi_21 => omega
   case hm_21 => omega
 ·try simp only [sA] at hc0
  refine gc_exit ?_
  refine gk_then_exit ?_
  refine gk_then_exit ?_
  refine gk_block_hit ?_
  refine gk_then (hK3 _ _ ?_)
  refine gc_sr fun K22 hK22 => ?_
  refine gm ?_
  refine gas ?_
  refine gnt (hK22 _ _ ?_)
  refine gc_ret ?_
  refine ret_1 rfl rfl  (fun w M => ?_)
  obtain rfl : k = xs.length := by omega
  exact ⟨_, rfl, mem_own1 (n := 0) M rfl, M.1⟩

end Go.Proofs.Ytfnneogadciimab
