
/- Lists of what is combined of two lists, all with all or place by place: the program's and the model's; the closure that numbers pairs. -/
import Derived.Test.YtpppoipaabofgaaShort
import Derived.Test.YtpppoipaabofgaaFunM
set_option linter.unusedSimpArgs false
set_option linter.unusedVariables false
set_option linter.unusedSectionVars false
namespace Go.Proofs.Ytpppoipaabofgaa
open Go.RowKit


def prL (φ : Int → Int → Int) (xs ys : List Int) : List Int := tab2 (fun i j => φ (at0 xs (i : Int)) (at0 ys (j : Int))) ys.length xs.length 0
def zpL (φ : Int → Int → Int) (xs ys : List Int) : List Int := tabTo (fun i => φ (at0 xs (i : Int)) (at0 ys (i : Int))) xs.length
theorem prL_len (φ : Int → Int → Int) (xs ys : List Int) : (prL φ xs ys).length = ys.length * xs.length := tab2_len _ _ _ _
theorem zpL_len (φ : Int → Int → Int) (xs ys : List Int) : (zpL φ xs ys).length = xs.length := tabTo_len _ _
theorem mul_bnd {x n : Int} (x0 : 0 ≤ x) (x1 : x ≤ 100) (n0 : 0 ≤ n) (n1 : n ≤ 100) : 0 ≤ x * n ∧ x * n ≤ 10000 := ⟨Int.mul_nonneg x0 n0, by have := Int.mul_le_mul x1 n1 n0 (by omega : (0 : Int) ≤ 100); omega⟩
theorem mul_40 {m k : Nat} (h : m ≤ 40) (h' : k ≤ 40) : m * k ≤ 1600 := Nat.mul_le_mul h h'
theorem allP_100 {n : Int} {xs : List Int} (h : AllP n xs) (hn : n ≤ 100) : AllP 100 xs := fun x hx => ⟨(h x hx).1, by have := (h x hx).2; omega⟩
theorem mem_bxlo2 {w0 w : World} {is : List Itm} {n B : Nat} {t : TypeId} {cs : List Value} (M : Mem w0 w is) (h : is[n]? = some (bxI B t cs)) : Bx w B t cs ∧ w0.heap.size ≤ B := by
 obtain ⟨S, hS, hb, hs⟩ := mem_get M h
 exact ⟨hb, hS _ hs⟩
section
variable {w0 : World} {is : List Itm} {ops : Array Oper} {Q : Exit → Act → World → Prop} {o : Oper} {N : Nat} {e : Env} {v u : Value} {d : Nat} {K : Act → World → Prop} {f : FuncId} {fn : Func} {ags : Array Operand} {ts : Array TypeId} {vs : List Value}
end

theorem tab2_step (φ : Nat → Nat → Int) {m a b : Nat} (h : b < m) : tab2 φ m a b ++ [φ a b] = tab2 φ m a (b + 1) := tab2_succ h

set_option maxHeartbeats 1000000 in
set_option maxRecDepth 100000 in
theorem zipped_any (w : World) (v : Value) (xs : List Int) (u : Value) (ys : List Int) (hx : Rd w v xs) (hy : Rd w u ys) (xl : xs.length ≤ 40) (yl : ys.length ≤ 40) (hl : xs.length = ys.length) (g : Value) (φ : Int → Int → Int) (hg : ∀ w', Below w.heap.size w w' → ∀ i : Nat, i < xs.length → CallsV g [.int .i64 (at0 xs (i : Int)), .int .i64 (at0 ys (i : Int))] w' (RetI w' (φ (at0 xs (i : Int)) (at0 ys (i : Int))))) :
  Calls Try.prog 106 #[v, u, g] w (RetL w (zpL φ xs ys)) := by
 obtain ⟨va, vc, rfl⟩ := rd_form hx
 obtain ⟨ua, uc, rfl⟩ := rd_form hy
 go_enter Try.func106, Try.ntmps106
 refine gc_enter (N := 32) rfl (look_cons (k := 0) rfl (look_cons (k := 1) rfl (look_cons (k := 2) rfl (look_nil _)))) ?_
 refine gc_sr fun K1 hK1 => ?_
 refine gas ?_
 refine gnt (hK1 _ _ ?_)
 refine gc_sr fun K2 hK2 => ?_
 refine gm ?_
 refine gv (qln (fun w M => lenV_rd hx)) ?_
 refine gop fun K4 hK4 => ?_
 refine go_make1 rfl rfl rfl Try.underlying22 rfl rfl (by omega) ?_
 intro B3
 refine hK4 _ _ ?_
 refine gas ?_
 refine gnt (hK2 _ _ ?_)
 refine gc_seq fun K5 hK5 => ?_
 refine gc_sr fun K6 hK6 => ?_
 refine gm ?_
 refine gv (qln (fun w M => lenV_rd hx)) ?_
 refine gm ?_
 refine gnt (hK6 _ _ ?_)
 refine gc_block ?_
 rw [fillTo_zero (fun i => φ (at0 xs (i : Int)) (at0 ys (i : Int))) xs.length]
 try simp only [sL]
 refine gc_loopT ([(0, _), (1, _), (2, _), (6, _), (7, _), (13, _)] : Env) (fun s : Nat => (fun (k : Nat) => (([(14, .int .i64 (k : Int))] : Env), ([(0, own1I (.slice (some ⟨B3, 0, none⟩) xs.length xs.length) (fillTo (fun i => φ (at0 xs (i : Int)) (at0 ys (i : Int))) xs.length k))] : List (Nat × Itm)), k ≤ xs.length, xs.length - k)) s) (0) (by repeat first | exact sub_nil | refine sub_cons rfl ?_) rfl (Nat.zero_le _) ?_
 rintro k hinv KL7 hKL7
 simp only [sU, sL] at hinv hKL7 ⊢
 have hk := hinv
 have hfl := fillTo_len (fun i => φ (at0 xs (i : Int)) (at0 ys (i : Int))) xs.length k
 refine gc_sr fun K8 hK8 => ?_
 refine gv (qt_lss rfl rfl rfl) ?_
 refine gnt (hK8 _ _ ?_)
 refine gc_seq fun K9 hK9 => ?_
 refine gc_cond rfl (fun hc0 => ?_) (fun hc0 => ?_)
 ·try simp only [sA] at hc0
  refine gc_skip ?_
  refine gk_then (hK9 _ _ ?_)
  refine gc_seq fun K10 hK10 => ?_
  refine gc_block ?_
  refine gc_sr fun K11 hK11 => ?_
  refine gm ?_
  refine gas ?_
  refine gnt (hK11 _ _ ?_)
  try simp only [sL]
  refine ga_start _ (fun w M => mem_erase 0 (M)) ?_
  refine gav 0 rfl (qt_move rfl rfl) ?_
  refine gav 1 rfl (qt_move rfl rfl) ?_
  refine gav 2 rfl (qt_move rfl rfl) ?_
  refine gav 3 rfl (qt_move rfl rfl) ?_
  refine gav 4 rfl (qt_move rfl rfl) ?_
  refine gav 5 rfl (qti (fun w M => lenA_rd hx)) ?_
  refine gav 6 rfl (qtd (fun w M => mem_rd M hx)) ?_
  refine gav 7 rfl (qt_move rfl rfl) ?_
  refine gav 8 rfl (qt_move rfl rfl) ?_
  refine gav 9 rfl (qti (fun w M => lenA_rd hy)) ?_
  refine gav 10 rfl (qtd (fun w M => mem_rd M hy)) ?_
  refine gao 11 fun K12 hK12 => ?_
  refine go_q rfl rfl (qt_callV rfl rfl rfl (fun w M => hg w M.1 k (by omega))) ?_
  refine hK12 _ _ (fun w M => (mem_erase 0 (mem_take 1 M) :)) ?_
  refine gao 12 fun K13 hK13 => ?_
  refine gov (qti (fun w M => lenA_own1 (n := 0) rfl M)) ?_
  refine hK13 _ _ (fun w M => (mem_erase 0 (mem_take 1 M) :)) ?_
  refine gao 13 fun K14 hK14 => ?_
  refine go_store1 (n := 0) rfl rfl rfl rfl (by kernel_rfl) rfl (by omega) (by omega) ?_
  refine hK14 _ _ (fun w M => (mem_erase 0 (mem_take 1 M) :)) ?_
  refine ga_done (by kernel_rfl) ?_
  refine gk_block ?_
  refine gk_then (hK10 _ _ ?_)
  refine gc_region ?_
  refine gv (qt_add rfl rfl rfl (by omega)) ?_
  refine gm ?_
  refine g_nil ?_
  rw [fillTo_set (φ := fun i => φ (at0 xs (i : Int)) (at0 ys (i : Int))) (by omega)]
  refine gk_then (gk_take 1 ?_)
  refine gk_sub ?hs_15 (hKL7 (k + 1) ?hi_15 ?hm_15)
  case hs_15 => repeat first | exact sub_nil | refine sub_cons rfl ?_
  case hi_15 => omega
  case hm_15 => omega
 ·try simp only [sA] at hc0
  refine gc_exit ?_
  refine gk_then_exit ?_
  refine gk_then_exit ?_
  refine gk_block_hit ?_
  refine gk_then (hK5 _ _ ?_)
  refine gc_sr fun K16 hK16 => ?_
  refine gm ?_
  refine gas ?_
  refine gnt (hK16 _ _ ?_)
  refine gc_ret ?_
  refine ret_1 rfl rfl  (fun w M => ?_)
  obtain rfl : k = xs.length := by omega
  rw [fillTo_end] at M
  exact ⟨_, rfl, mem_own1 (n := 0) M rfl, M.1⟩

end Go.Proofs.Ytpppoipaabofgaa
