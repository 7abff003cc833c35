import Derived.Test.YtbiplocgenppoaaS4
import Derived.Test.YtbiplocgenppoaaS20
import Derived.Test.YtbiplocgenppoaaS11
import Derived.Test.YtbiplocgenppoaaS10
set_option maxHeartbeats 4000000
set_option maxRecDepth 100000
set_option linter.unusedSimpArgs false
set_option linter.unusedVariables false
set_option linter.unusedSectionVars false
namespace Go.Proofs.Ytbiplocgenppoaa
open _root_.Go.Proofs.Try
open Go.RowKit
theorem bt_l03Path {a b : Int} {h1 : Option Addr} {h2 h3 : Nat} : Try.prog.built 127 [(0, .int .i64 a), (1, .int .i64 b), (2, .slice h1 h2 h3)] = some #[.int .i64 a, .int .i64 b, .slice h1 h2 h3] := by kernel_rfl
def lessL : List Int → List Int → Bool
 | [], [] => false
 | [], _ :: _ => true
 | _ :: _, [] => false
 | a :: p, b :: q => if a = b then lessL p q else decide (a < b)
theorem lessL_drop {xs ys : List Int} {i : Nat} (hx : i < xs.length) (hy : i < ys.length) : lessL (xs.drop i) (ys.drop i) = if at0 xs (i : Int) = at0 ys (i : Int) then lessL (xs.drop (i + 1)) (ys.drop (i + 1)) else decide (at0 xs (i : Int) < at0 ys (i : Int)) := by
 rw [List.drop_eq_getElem_cons hx, List.drop_eq_getElem_cons hy, at0_nat, at0_nat, List.getD_eq_getElem?_getD, List.getD_eq_getElem?_getD, List.getElem?_eq_getElem hx, List.getElem?_eq_getElem hy]
 rfl
theorem lessL_end {xs ys : List Int} {i : Nat} (hx : i ≤ xs.length) (hy : i ≤ ys.length) (h : xs.length ≤ i ∨ ys.length ≤ i) : lessL (xs.drop i) (ys.drop i) = decide (xs.length < ys.length) := by
 by_cases h1 : xs.length ≤ i
 ·rw [List.drop_eq_nil_of_le h1]
  by_cases h2 : ys.length ≤ i
  ·rw [List.drop_eq_nil_of_le h2]
   have : ¬ xs.length < ys.length := by omega
   simp [lessL, this]
  rw [List.drop_eq_getElem_cons (l := ys) (by omega)]
  have : xs.length < ys.length := by omega
  simp [lessL, this]
 rw [List.drop_eq_getElem_cons (l := xs) (by omega), List.drop_eq_nil_of_le («as» := ys) (by omega)]
 have : ¬ xs.length < ys.length := by omega
 simp [lessL, this]
abbrev Pay := Int × Int × List Int
def pay (e : Ent Edg) : Pay := (e.1, e.2.1, e.2.2.2)
def befP (a b : Pay) : Bool := if a.1 ≠ b.1 then decide (a.1 < b.1) else if a.2.1 ≠ b.2.1 then decide (a.2.1 < b.2.1) else lessL a.2.2 b.2.2
theorem specLess_any (w : World) (v1 v2 : Value) (xs ys : List Int) (h1 : Rd w v1 xs) (h2 : Rd w v2 ys) (hl : xs.length ≤ 1048576) :
  Calls Try.prog 112 #[v1, v2] w (RetB w (lessL xs ys)) := by
 obtain ⟨v1a, v1c, rfl⟩ := rd_form h1
 obtain ⟨v2a, v2c, rfl⟩ := rd_form h2
 go_enter func112, Try.ntmps112
 refine gc_enter (N := 41) rfl (look_cons (k := 0) rfl (look_cons (k := 1) rfl (look_nil _))) ?_
 refine gc_sr fun K1 hK1 => ?_
 refine gas ?_
 refine gnt (hK1 _ _ ?_)
 refine gc_seq fun K2 hK2 => ?_
 refine gc_sr fun K3 hK3 => ?_
 refine gas ?_
 refine gnt (hK3 _ _ ?_)
 refine gc_block ?_
 try simp only [sL]
 refine gc_loopT ([(0, _), (1, _)] : Env) (fun s : Nat => (fun (i : Nat) => (([(5, .int .i64 (i : Int))] : Env), ([] : List (Nat × Itm)), i ≤ xs.length ∧ i ≤ ys.length ∧ lessL xs ys = lessL (xs.drop i) (ys.drop i), xs.length - i)) s) (0) (by repeat first | exact sub_nil | refine sub_cons rfl ?_) rfl ⟨Nat.zero_le _, Nat.zero_le _, rfl⟩ ?_
 rintro i hinv KL4 hKL4
 simp only [sU, sL] at hinv hKL4 ⊢
 obtain ⟨hi1, hi2, hi3⟩ := hinv
 refine gc_seq fun K5 hK5 => ?_
 refine gc_sr fun K6 hK6 => ?_
 refine gm ?_
 refine gm ?_
 refine gv (qln (fun w M => lenV_rd h1)) ?_
 refine gv (qt_lss rfl rfl rfl) ?_
 refine g_splitv (.free rfl) rfl rfl (qt_move rfl rfl) (fun hs2_4 => ?_) (fun hs2_4 => ?_)
 ·try simp only [sA] at hs2_4
  refine gvh (qt_move rfl rfl) ?_
  refine gvh (qt_move rfl rfl) ?_
  refine gvh (qln (fun w M => lenV_rd h2)) ?_
  refine gvh (qt_lss rfl rfl rfl) ?_
  refine gv (qt_pick_t rfl rfl rfl) ?_
  refine gnt (hK6 _ _ ?_)
  refine gc_cond rfl (fun hc0 => ?_) (fun hc0 => ?_)
  ·try simp only [sA] at hc0
   refine gc_skip ?_
   refine gk_then (hK5 _ _ ?_)
   refine gc_seq fun K7 hK7 => ?_
   refine gc_block ?_
   refine gc_seq fun K8 hK8 => ?_
   refine gc_draw (by kernel_rfl) ?_
   refine gdv (qt_move rfl rfl) ?_
   refine gdv (qt_move rfl rfl) ?_
   refine gdv (qti (fun w M => lenA_rd h1)) ?_
   refine gdv (qtd (fun w M => mem_rd M h1)) ?_
   refine gdv (qt_move rfl rfl) ?_
   refine gdv (qt_move rfl rfl) ?_
   refine gdv (qti (fun w M => lenA_rd h2)) ?_
   refine gdv (qtd (fun w M => mem_rd M h2)) ?_
   refine gdv (qt_neq rfl rfl rfl) ?_
   refine gd_nil ?_
   refine gk_then (hK8 _ _ ?_)
   refine gc_cond rfl (fun hc1 => ?_) (fun hc1 => ?_)
   ·try simp only [sA] at hc1
    refine gc_seq fun K9 hK9 => ?_
    refine gc_draw (by kernel_rfl) ?_
    refine gdv (qt_move rfl rfl) ?_
    refine gdv (qt_move rfl rfl) ?_
    refine gdv (qti (fun w M => lenA_rd h1)) ?_
    refine gdv (qtd (fun w M => mem_rd M h1)) ?_
    refine gdv (qt_move rfl rfl) ?_
    refine gdv (qt_move rfl rfl) ?_
    refine gdv (qti (fun w M => lenA_rd h2)) ?_
    refine gdv (qtd (fun w M => mem_rd M h2)) ?_
    refine gdv (qt_lss rfl rfl rfl) ?_
    refine gdv (qt_assign rfl rfl) ?_
    refine gd_nil ?_
    refine gk_then (hK9 _ _ ?_)
    refine gc_ret ?_
    refine gk_block_ret ?_
    refine gk_then_ret ?_
    refine gk_then_ret ?_
    refine gk_block_ret ?_
    refine gk_then_ret ?_
    refine ret_1 rfl rfl  (fun w M => ?_)
    rw [hi3, lessL_drop (by omega) (by omega), if_neg (by omega)]
    exact ⟨rfl, M.1⟩
   try simp only [sA] at hc1
   refine gc_skip ?_
   refine gk_block ?_
   refine gk_then (hK7 _ _ ?_)
   refine gc_region ?_
   refine gm ?_
   refine gv (qt_add rfl rfl rfl (by omega)) ?_
   refine gas ?_
   refine g_nil ?_
   have hd := lessL_drop (xs := xs) (ys := ys) (i := i) (by omega) (by omega)
   rw [if_pos (by omega)] at hd
   refine gk_then (gk_take 0 ?_)
   refine gk_sub ?hs_10 (hKL4 (i + 1) ?hi_10 ?hm_10)
   case hs_10 => repeat first | exact sub_nil | refine sub_cons rfl ?_
   case hi_10 => exact ⟨by omega, by omega, hi3.trans hd⟩
   case hm_10 => omega
  try simp only [sA] at hc0
  refine gc_exit ?_
  refine gk_then_exit ?_
  refine gk_then_exit ?_
  refine gk_block_hit ?_
  refine gk_then (hK2 _ _ ?_)
  refine gc_sr fun K11 hK11 => ?_
  refine gm ?_
  refine gv (qln (fun w M => lenV_rd h1)) ?_
  refine gm ?_
  refine gv (qln (fun w M => lenV_rd h2)) ?_
  refine gv (qt_lss rfl rfl rfl) ?_
  refine gas ?_
  refine gnt (hK11 _ _ ?_)
  refine gc_ret ?_
  refine ret_1 rfl rfl  (fun w M => ?_)
  rw [hi3, lessL_end hi1 hi2 (by omega)]
  exact ⟨by simp, M.1⟩
 try simp only [sA] at hs2_4
 refine gsk ?_
 refine gsk ?_
 refine gsk ?_
 refine gsk ?_
 refine gv (qt_pick_f rfl rfl rfl) ?_
 refine gnt (hK6 _ _ ?_)
 refine gc_cond_f rfl ?_
 refine gc_exit ?_
 refine gk_then_exit ?_
 refine gk_then_exit ?_
 refine gk_block_hit ?_
 refine gk_then (hK2 _ _ ?_)
 refine gc_sr fun K12 hK12 => ?_
 refine gm ?_
 refine gv (qln (fun w M => lenV_rd h1)) ?_
 refine gm ?_
 refine gv (qln (fun w M => lenV_rd h2)) ?_
 refine gv (qt_lss rfl rfl rfl) ?_
 refine gas ?_
 refine gnt (hK12 _ _ ?_)
 refine gc_ret ?_
 refine ret_1 rfl rfl  (fun w M => ?_)
 rw [hi3, lessL_end hi1 hi2 (by omega)]
 exact ⟨by simp, M.1⟩
theorem specBefore_any (w : World) (al bl : Edg) (a1 a2 b1 b2 : Int) (h1 : Rd w (hdV al.1) al.2) (h2 : Rd w (hdV bl.1) bl.2) (hl : al.2.length ≤ 1048576) :
  Calls Try.prog 111 #[.agg #[.int .i64 a1, .int .i64 a2, hdV al.1], .agg #[.int .i64 b1, .int .i64 b2, hdV bl.1]] w (RetB w (befP (a1, a2, al.2) (b1, b2, bl.2))) := by
 go_enter func111, Try.ntmps111
 refine gc_enter (N := 30) rfl (look_cons (k := 0) rfl (look_cons (k := 1) rfl (look_nil _))) ?_
 refine gc_sr fun K1 hK1 => ?_
 refine gop fun K3 hK3 => ?_
 refine go_box rfl rfl rfl rfl rfl ?_
 intro B2
 refine hK3 _ _ ?_
 refine gop fun K5 hK5 => ?_
 refine go_box rfl rfl rfl rfl rfl ?_
 intro B4
 refine hK5 _ _ ?_
 refine gas ?_
 refine gnt (hK1 _ _ ?_)
 refine gc_seq fun K6 hK6 => ?_
 refine gc_sr fun K7 hK7 => ?_
 refine gv (qtf underlying127 (z := 0) (off := 0)) ?_
 refine gv (qtl underlying2 (n := 0)) ?_
 refine gv (qtf underlying127 (z := 0) (off := 0)) ?_
 refine gv (qtl underlying2 (n := 1)) ?_
 refine gv (qt_neq rfl rfl rfl) ?_
 refine gnt (hK7 _ _ ?_)
 refine gc_cond rfl (fun hc0 => ?_) (fun hc0 => ?_)
 ·try simp only [sA] at hc0
  refine gc_sr fun K8 hK8 => ?_
  refine gv (qtf underlying127 (z := 0) (off := 0)) ?_
  refine gv (qtl underlying2 (n := 0)) ?_
  refine gv (qtf underlying127 (z := 0) (off := 0)) ?_
  refine gv (qtl underlying2 (n := 1)) ?_
  refine gv (qt_lss rfl rfl rfl) ?_
  refine gas ?_
  refine gnt (hK8 _ _ ?_)
  refine gc_ret ?_
  refine gk_then_ret ?_
  refine ret_1 rfl rfl  (fun w M => ?_)
  rw [show befP (a1, a2, al.2) (b1, b2, bl.2) = decide (a1 < b1) from by simp [befP, hc0]]
  exact ⟨rfl, M.1⟩
 try simp only [sA] at hc0
 refine gc_skip ?_
 refine gk_then (hK6 _ _ ?_)
 refine gc_seq fun K9 hK9 => ?_
 refine gc_sr fun K10 hK10 => ?_
 refine gv (qtf underlying127 (z := 0) (off := 1)) ?_
 refine gv (qtl underlying2 (n := 0)) ?_
 refine gv (qtf underlying127 (z := 0) (off := 1)) ?_
 refine gv (qtl underlying2 (n := 1)) ?_
 refine gv (qt_neq rfl rfl rfl) ?_
 refine gnt (hK10 _ _ ?_)
 refine gc_cond rfl (fun hc1 => ?_) (fun hc1 => ?_)
 ·try simp only [sA] at hc1
  refine gc_sr fun K11 hK11 => ?_
  refine gv (qtf underlying127 (z := 0) (off := 1)) ?_
  refine gv (qtl underlying2 (n := 0)) ?_
  refine gv (qtf underlying127 (z := 0) (off := 1)) ?_
  refine gv (qtl underlying2 (n := 1)) ?_
  refine gv (qt_lss rfl rfl rfl) ?_
  refine gas ?_
  refine gnt (hK11 _ _ ?_)
  refine gc_ret ?_
  refine gk_then_ret ?_
  refine ret_1 rfl rfl  (fun w M => ?_)
  rw [show befP (a1, a2, al.2) (b1, b2, bl.2) = decide (a2 < b2) from by simp [befP, hc0, hc1]]
  exact ⟨rfl, M.1⟩
 try simp only [sA] at hc1
 refine gc_skip ?_
 refine gk_then (hK9 _ _ ?_)
 refine gc_sr fun K12 hK12 => ?_
 refine gv (qtf underlying127 (z := 0) (off := 2)) ?_
 refine gv (qtl underlying24 (n := 0)) ?_
 refine gv (qtf underlying127 (z := 0) (off := 2)) ?_
 refine gv (qtl underlying24 (n := 1)) ?_
 refine g_q (.free rfl) rfl rfl (qt_call rfl func112 rfl (by decide) rfl (fun w M => specLess_any w _ _ _ _ (mem_rd M h1) (mem_rd M h2) (by first | assumption | omega))) ?_
 refine gas ?_
 refine gnt (hK12 _ _ ?_)
 refine gc_ret ?_
 refine ret_1 rfl rfl  (fun w M => ?_)
 rw [show befP (a1, a2, al.2) (b1, b2, bl.2) = lessL al.2 bl.2 from by simp [befP, hc0, hc1]]
 exact ⟨rfl, M.1⟩
def startP (n : Nat) : List Pay := (List.range n).map fun x : Nat => ((x : Int), (x : Int), [])
theorem startP_succ (n : Nat) : startP (n + 1) = startP n ++ [((n : Int), (n : Int), [])] := by simp [startP, List.range_succ]
def extP (fr to : List Int) (p : Pay) (m : Nat) : List Pay := ((List.range m).filter fun e : Nat => decide (at0 fr (e : Int) = p.2.1)).map fun e : Nat => (p.1, at0 to (e : Int), p.2.2 ++ [(e : Int)])
theorem extP_yes {fr to : List Int} {p : Pay} {m : Nat} (h : at0 fr (m : Int) = p.2.1) : extP fr to p (m + 1) = extP fr to p m ++ [(p.1, at0 to (m : Int), p.2.2 ++ [(m : Int)])] := by simp [extP, List.range_succ, List.filter_append, h]
theorem extP_no {fr to : List Int} {p : Pay} {m : Nat} (h : at0 fr (m : Int) ≠ p.2.1) : extP fr to p (m + 1) = extP fr to p m := by simp [extP, List.range_succ, List.filter_append, h]
def bfsP (fr to : List Int) : Nat → Nat → List Pay → List Pay
 | 0, _, L => L
 | f + 1, k, L => if k < L.length ∧ L.length ≤ 40 then bfsP fr to f (k + 1) (L ++ extP fr to (L.getD k (0, 0, [])) fr.length) else L
def allP (n : Nat) (fr to : List Int) : List Pay := bfsP fr to 41 0 (startP n)
theorem bfs_stop {fr to : List Int} {f k : Nat} {L : List Pay} (h : ¬(k < L.length ∧ L.length ≤ 40)) : bfsP fr to f k L = L := by
 cases f with
 | zero => rfl
 | succ f => rw [bfsP, if_neg h]
theorem bfs_step {fr to : List Int} {k : Nat} {L : List Pay} (h1 : k < L.length) (h2 : L.length ≤ 40) : bfsP fr to (41 - k) k L = bfsP fr to (41 - (k + 1)) (k + 1) (L ++ extP fr to (L.getD k (0, 0, [])) fr.length) := by
 rw [show 41 - k = (41 - (k + 1)) + 1 from by omega, bfsP, if_pos ⟨h1, h2⟩]
def payA (es : List (Ent Edg)) (k : Nat) : Pay := pay (atE0 es (k : Int))
theorem payA_eq {es : List (Ent Edg)} {k : Nat} (h : k < es.length) : (es.map pay).getD k (0, 0, []) = payA es k := by
 have he : atE0 es (k : Int) = es[k] := by simp [atE0, List.getD_eq_getElem?_getD, List.getElem?_eq_getElem h]
 rw [payA, he, List.getD_eq_getElem?_getD, List.getElem?_map, List.getElem?_eq_getElem h]; rfl
theorem payA_pre {es es2 : List (Ent Edg)} {L : List Pay} {k : Nat} (he : es2.map pay = es.map pay ++ L) (h : k < es.length) : k < es2.length ∧ payA es2 k = payA es k := by
 have hl := congrArg List.length he
 simp only [List.length_map, List.length_append] at hl
 refine ⟨by omega, ?_⟩
 rw [← payA_eq (by omega), ← payA_eq h, he, List.getD_eq_getElem?_getD, List.getElem?_append_left (by simpa using h), ← List.getD_eq_getElem?_getD]
theorem all_push {fr to : List Int} {es es2 : List (Ent Edg)} {k e : Nat} {h : Hd} (hpk : payA es2 k = payA es k) (he : es2.map pay = es.map pay ++ extP fr to (payA es k) e) (hc : at0 fr (e : Int) = (atE0 es2 (k : Int)).2.1) :
  (es2 ++ [((atE0 es2 (k : Int)).1, at0 to (e : Int), (h, (atE0 es2 (k : Int)).2.2.2 ++ [(e : Int)]))]).map pay = es.map pay ++ extP fr to (payA es k) (e + 1) := by
 rw [extP_yes (by rw [← hpk]; exact hc), List.map_append, he, ← hpk, List.append_assoc]; rfl
theorem all_skip {fr to : List Int} {es es2 : List (Ent Edg)} {k e : Nat} (hpk : payA es2 k = payA es k) (he : es2.map pay = es.map pay ++ extP fr to (payA es k) e) (hc : at0 fr (e : Int) ≠ (atE0 es2 (k : Int)).2.1) :
  es2.map pay = es.map pay ++ extP fr to (payA es k) (e + 1) := by rw [extP_no (by rw [← hpk]; exact hc), he]
theorem pl_push {es : List (Ent Edg)} {pl : List Edg} {m : Nat} {en : Ent Edg} (h : ∀ x ∈ es, x.2.2 ∈ pl ∧ x.2.2.2.length ≤ m) (hl : en.2.2.2.length ≤ m) : ∀ x ∈ es ++ [en], x.2.2 ∈ pl ++ [en.2.2] ∧ x.2.2.2.length ≤ m := by
 intro x hx
 rcases List.mem_append.1 hx with hx | hx
 ·exact ⟨List.mem_append.2 (.inl (h x hx).1), (h x hx).2⟩
 obtain rfl := List.mem_singleton.1 hx
 exact ⟨List.mem_append.2 (.inr (List.mem_singleton.2 rfl)), hl⟩
theorem pl_le {es : List (Ent Edg)} {pl : List Edg} {m m' : Nat} (h : ∀ x ∈ es, x.2.2 ∈ pl ∧ x.2.2.2.length ≤ m) (hm : m ≤ m') : ∀ x ∈ es, x.2.2 ∈ pl ∧ x.2.2.2.length ≤ m' := fun x hx => ⟨(h x hx).1, Nat.le_trans (h x hx).2 hm⟩
def swapE (es : List (Ent Edg)) (j : Nat) : List (Ent Edg) := (es.set j (atE0 es ((j - 1 : Nat) : Int))).set (j - 1) (atE0 es (j : Int))
theorem swapE_eq (es : List (Ent Edg)) (j : Nat) : (es.set (j : Int).toNat (atE0 es ((j - 1 : Nat) : Int))).set ((j - 1 : Nat) : Int).toNat (atE0 es (j : Int)) = swapE es j := by
 rw [swapE, Int.toNat_natCast, Int.toNat_natCast]
theorem swapE_len (es : List (Ent Edg)) (j : Nat) : (swapE es j).length = es.length := by simp [swapE]
theorem atE0_get {es : List (Ent Edg)} {k : Nat} (h : k < es.length) : atE0 es (k : Int) = es[k] := by simp [atE0, List.getD_eq_getElem?_getD, List.getElem?_eq_getElem h]
theorem set2_at {α : Type} (es : List α) (A B : α) {j k : Nat} (h0 : 0 < j) (hk : k < es.length) (hk' : k < ((es.set j A).set (j - 1) B).length) : ((es.set j A).set (j - 1) B)[k] = if k = j then A else if k = j - 1 then B else es[k] := by
 rw [List.getElem_set, List.getElem_set]
 by_cases h1 : k = j
 ·subst h1
  rw [if_neg (by omega), if_pos rfl, if_pos rfl]
 by_cases h2 : k = j - 1
 ·rw [if_pos h2.symm, if_neg h1, if_pos h2]
 rw [if_neg (fun e => h2 e.symm), if_neg (fun e => h1 e.symm), if_neg h1, if_neg h2]
theorem swapE_at {es : List (Ent Edg)} {j k : Nat} (h0 : 0 < j) (hk : k < es.length) : atE0 (swapE es j) (k : Int) = if k = j then atE0 es ((j - 1 : Nat) : Int) else if k = j - 1 then atE0 es (j : Int) else atE0 es (k : Int) := by
 have hl : k < (swapE es j).length := by rw [swapE_len]; exact hk
 rw [atE0_get hl, atE0_get hk]
 exact set2_at es _ _ h0 hk hl
theorem swapE_mem {es : List (Ent Edg)} {j : Nat} (h0 : 0 < j) (hj : j < es.length) {x : Ent Edg} (hx : x ∈ swapE es j) : x ∈ es := by
 obtain ⟨k, hk, rfl⟩ := List.getElem_of_mem hx
 have hk2 : k < es.length := by rwa [swapE_len] at hk
 rw [← atE0_get hk, swapE_at h0 hk2]
 split
 ·exact atE0_mem (by omega) (by omega)
 split
 ·exact atE0_mem (by omega) (by omega)
 exact atE0_mem (by omega) (by omega)
theorem swapE_perm {es : List (Ent Edg)} {j : Nat} (h0 : 0 < j) (hj : j < es.length) : (swapE es j).Perm es := by
 have e1 : atE0 es ((j - 1 : Nat) : Int) = es[j - 1] := atE0_get (by omega)
 rw [swapE, e1, atE0_get hj]
 exact List.set_set_perm (by omega) (by omega)
theorem lessL_asymm : ∀ {a b : List Int}, lessL a b = true → lessL b a = false
 | [], [], h => by simp [lessL] at h
 | [], _ :: _, _ => rfl
 | _ :: _, [], h => by simp [lessL] at h
 | x :: p, y :: q, h => by
  simp only [lessL] at h ⊢
  by_cases hxy : x = y
  ·subst hxy
   rw [if_pos rfl] at h ⊢
   exact lessL_asymm h
  rw [if_neg hxy] at h
  rw [if_neg (fun e => hxy e.symm)]
  have := of_decide_eq_true h
  exact decide_eq_false (by omega)
theorem lessL_tr : ∀ {a b c : List Int}, lessL b a = false → lessL c b = false → lessL c a = false
 | [], [], [], _, _ => rfl
 | [], [], _ :: _, _, _ => rfl
 | [], _ :: _, [], _, h => by simp [lessL] at h
 | [], _ :: _, _ :: _, _, _ => rfl
 | _ :: _, [], c, h, _ => by simp [lessL] at h
 | _ :: _, _ :: _, [], _, h => by simp [lessL] at h
 | x :: p, y :: q, z :: r, h1, h2 => by
  simp only [lessL] at h1 h2 ⊢
  by_cases e1 : y = x
  ·subst e1
   rw [if_pos rfl] at h1
   by_cases e2 : z = y
   ·subst e2
    rw [if_pos rfl] at h2 ⊢
    exact lessL_tr h1 h2
   rw [if_neg e2] at h2 ⊢
   exact h2
  rw [if_neg e1] at h1
  have g1 := of_decide_eq_false h1
  by_cases e2 : z = y
  ·subst e2
   rw [if_neg e1]
   exact h1
  rw [if_neg e2] at h2
  have g2 := of_decide_eq_false h2
  rw [if_neg (by omega)]
  exact decide_eq_false (by omega)
theorem befP_asymm {a b : Pay} (h : befP a b = true) : befP b a = false := by
 unfold befP at *
 by_cases h1 : a.1 = b.1
 ·by_cases h2 : a.2.1 = b.2.1
  ·rw [if_neg (by simpa using h1), if_neg (by simpa using h2)] at h
   rw [if_neg (by simpa using h1.symm), if_neg (by simpa using h2.symm)]
   exact lessL_asymm h
  rw [if_neg (by simpa using h1), if_pos h2] at h
  rw [if_neg (by simpa using h1.symm), if_pos (fun e => h2 e.symm)]
  have := of_decide_eq_true h
  exact decide_eq_false (by omega)
 rw [if_pos h1] at h
 rw [if_pos (fun e => h1 e.symm)]
 have := of_decide_eq_true h
 exact decide_eq_false (by omega)
theorem befP_tr {a b c : Pay} (h1 : befP b a = false) (h2 : befP c b = false) : befP c a = false := by
 unfold befP at *
 by_cases e1 : b.1 = a.1
 ·rw [if_neg (by simpa using e1)] at h1
  by_cases e2 : c.1 = b.1
  ·rw [if_neg (by simpa using e2)] at h2
   rw [if_neg (by simpa using e2.trans e1)]
   by_cases f1 : b.2.1 = a.2.1
   ·rw [if_neg (by simpa using f1)] at h1
    by_cases f2 : c.2.1 = b.2.1
    ·rw [if_neg (by simpa using f2)] at h2
     rw [if_neg (by simpa using f2.trans f1)]
     exact lessL_tr h1 h2
    rw [if_pos f2] at h2
    rw [if_pos (by omega), ← f1]; exact h2
   rw [if_pos f1] at h1
   have g1 := of_decide_eq_false h1
   by_cases f2 : c.2.1 = b.2.1
   ·rw [if_pos (by omega), f2]; exact h1
   rw [if_pos f2] at h2
   have g2 := of_decide_eq_false h2
   rw [if_pos (by omega)]
   exact decide_eq_false (by omega)
  rw [if_pos e2] at h2
  rw [if_pos (by omega), ← e1]; exact h2
 rw [if_pos e1] at h1
 have g1 := of_decide_eq_false h1
 by_cases e2 : c.1 = b.1
 ·rw [if_pos (by omega), e2]; exact h1
 rw [if_pos e2] at h2
 have g2 := of_decide_eq_false h2
 rw [if_pos (by omega)]
 exact decide_eq_false (by omega)
def SortE (es : List (Ent Edg)) (m : Nat) : Prop := ∀ p q : Nat, p < q → q < m → befP (payA es q) (payA es p) = false
def SortX (es : List (Ent Edg)) (i j : Nat) : Prop := ∀ p q : Nat, p < q → q ≤ i → q ≠ j → befP (payA es q) (payA es p) = false
theorem sortX_of {es : List (Ent Edg)} {i : Nat} (h : SortE es i) : SortX es i i := fun p q h1 h2 h3 => h p q h1 (by omega)
theorem sortX_0 {es : List (Ent Edg)} {i : Nat} (h : SortX es i 0) : SortE es (i + 1) := fun p q h1 h2 => h p q h1 (by omega) (by omega)
theorem sortX_stop {es : List (Ent Edg)} {i j : Nat} (h : SortX es i j) (h0 : 0 < j) (hj : j ≤ i) (hb : befP (payA es j) (payA es (j - 1)) = false) : SortE es (i + 1) := fun p q h1 h2 => by
 by_cases hq : q = j
 ·subst hq
  by_cases hp : p = q - 1
  ·subst hp; exact hb
  exact befP_tr (h p (q - 1) (by omega) (by omega) (by omega)) hb
 exact h p q h1 (by omega) hq
theorem payA_swap {es : List (Ent Edg)} {j k : Nat} (h0 : 0 < j) (hk : k < es.length) : payA (swapE es j) k = if k = j then payA es (j - 1) else if k = j - 1 then payA es j else payA es k := by
 unfold payA
 rw [swapE_at h0 hk]
 split
 ·rfl
 split <;> rfl
theorem sortX_swap {es : List (Ent Edg)} {i j : Nat} (h : SortX es i j) (h0 : 0 < j) (hj : j ≤ i) (hi : i < es.length) (hb : befP (payA es j) (payA es (j - 1)) = true) : SortX (swapE es j) i (j - 1) := fun p q h1 h2 h3 => by
 rw [payA_swap h0 (by omega), payA_swap h0 (by omega), if_neg h3]
 by_cases hq : q = j
 ·subst hq
  rw [if_pos rfl, if_neg (by omega)]
  by_cases hp : p = q - 1
  ·rw [if_pos hp]; exact befP_asymm hb
  rw [if_neg hp]; exact h p (q - 1) (by omega) (by omega) (by omega)
 rw [if_neg hq]
 by_cases hp : p = j
 ·rw [if_pos hp]; exact h (j - 1) q (by omega) h2 hq
 rw [if_neg hp]
 by_cases hp2 : p = j - 1
 ·rw [if_pos hp2]; exact h j q (by omega) h2 hq
 rw [if_neg hp2]; exact h p q h1 h2 hq
def RetP (W : World) (R : List (Ent Edg) → Prop) (e : Ending) (w : World) : Prop := ∃ v es pl, e = .returned v ∧ Star [ownEI0 lab_path v es, poolI pl] w (fun k => W.heap.size ≤ k) ∧ (∀ x ∈ es, x.2.2 ∈ pl ∧ x.2.2.2.length ≤ 41) ∧ R es ∧ Below W.heap.size W w
def PathsP (n : Nat) (fr to : List Int) (es : List (Ent Edg)) : Prop := (es.map pay).Perm (allP n fr to) ∧ SortE es es.length ∧ es.length ≤ 40 + n + fr.length
theorem specAll_any (w : World) (n : Nat) (v1 v2 : Value) (fr to : List Int) (h1 : Rd w v1 fr) (h2 : Rd w v2 to) (hn : n ≤ 1000) (hf : fr.length ≤ 1000) (hft : to.length = fr.length) :
  Calls Try.prog 108 #[.int .i64 (n : Int), v1, v2] w (RetP w (PathsP n fr to)) := by
 obtain ⟨v1a, v1c, rfl⟩ := rd_form h1
 obtain ⟨v2a, v2c, rfl⟩ := rd_form h2
 go_enter func108, Try.ntmps108
 refine gc_enter (N := 117) rfl (look_cons (k := 0) rfl (look_cons (k := 1) rfl (look_cons (k := 2) rfl (look_nil _)))) ?_
 refine gc_sr fun K1 hK1 => ?_
 refine gas ?_
 refine gnt (hK1 _ _ ?_)
 refine gc_sr fun K2 hK2 => ?_
 refine gop fun K4 hK4 => ?_
 refine go_sliceP0 rfl rfl rfl rfl ?_
 intro B3
 refine hK4 _ _ ?_
 refine gas ?_
 refine gnt (hK2 _ _ ?_)
 refine gc_seq fun K5 hK5 => ?_
 refine gc_sr fun K6 hK6 => ?_
 refine gas ?_
 refine gnt (hK6 _ _ ?_)
 refine gc_block ?_
 refine gc_pool0 ?_
 try simp only [sL]
 refine gc_loopT ([(0, _), (1, _), (2, _), (6, _)] : Env) (fun s : (List (Ent Edg)) × (List Edg) × (Option Addr) × Nat × Nat => (fun (es0 : List (Ent Edg)) (pl0 : List Edg) (a0 : Option Addr) (c0 : Nat) (x : Nat) => (([(7, .slice a0 es0.length c0), (8, .int .i64 (x : Int))] : Env), ([(0, ownEI0 lab_path (.slice a0 es0.length c0) es0), (1, poolI pl0)] : List (Nat × Itm)), x ≤ n ∧ es0.map pay = startP x ∧ es0.length = x ∧ (∀ y ∈ es0, y.2.2 ∈ pl0 ∧ y.2.2.2.length ≤ 0), n - x)) s.1 s.2.1 s.2.2.1 s.2.2.2.1 s.2.2.2.2) (([], [], _, _, 0)) (by repeat first | exact sub_nil | refine sub_cons rfl ?_) rfl ⟨Nat.zero_le _, rfl, rfl, fun y hy => by simp at hy⟩ ?_
 rintro ⟨es0, pl0, a0, c0, x⟩ hinv KL7 hKL7
 simp only [sU, sL] at hinv hKL7 ⊢
 obtain ⟨hx, he0, hl0, hpl⟩ := hinv
 refine gc_seq fun K8 hK8 => ?_
 refine gc_sr fun K9 hK9 => ?_
 refine gm ?_
 refine gm ?_
 refine gv (qt_lss rfl rfl rfl) ?_
 refine gnt (hK9 _ _ ?_)
 refine gc_cond rfl (fun hc0 => ?_) (fun hc0 => ?_)
 ·try simp only [sA] at hc0
  refine gc_skip ?_
  refine gk_then (hK8 _ _ ?_)
  refine gc_seq fun K10 hK10 => ?_
  refine gc_block ?_
  refine gc_region ?_
  refine gm ?_
  refine gm ?_
  refine gm ?_
  refine gop fun K12 hK12 => ?_
  refine go_slice0 rfl rfl rfl underlying24 ?_
  intro B11
  refine hK12 _ _ ?_
  refine gv (qt_build rfl rfl bt_l03Path) ?_
  refine gop fun K14 hK14 => ?_
  refine go_sliceP1 (m := 2) rfl rfl rfl rfl rfl rfl ?_
  intro B13
  refine hK14 _ _ ?_
  refine gop fun K16 hK16 => ?_
  refine go_appendE0 lab_path (n := 0) (m := 3) rfl rfl rfl rfl rfl rfl rfl rfl (show _ ≤ 3000000000000 by omega) ?_
  intro va15 vc15
  refine hK16 _ _ ?_
  refine gas ?_
  refine g_nil ?_
  refine gk_block ?_
  refine gk_then (hK10 _ _ ?_)
  refine gc_region ?_
  refine gm ?_
  refine gv (qt_add rfl rfl rfl (by omega)) ?_
  refine gas ?_
  refine g_nil ?_
  refine gk_poolA (n := 1) (m := 2) (m' := 1) rfl rfl rfl ?_
  refine gk_then (gk_take 2 ?_)
  refine gk_sub ?hs_17 (hKL7 ((_, _, _, _, x + 1)) ?hi_17 ?hm_17)
  case hs_17 => repeat first | exact sub_nil | refine sub_cons rfl ?_
  case hi_17 => exact ⟨by (try dsimp only); omega, by rw [List.map_append, he0, startP_succ]; rfl, by (try dsimp only); simp; omega, pl_push hpl (Nat.le_refl _)⟩
  case hm_17 => (try dsimp only); omega
 try simp only [sA] at hc0
 refine gc_exit ?_
 refine gk_then_exit ?_
 refine gk_then_exit ?_
 refine gk_block_hit ?_
 refine gk_then (hK5 _ _ ?_)
 refine gc_seq fun K18 hK18 => ?_
 refine gc_sr fun K19 hK19 => ?_
 refine gas ?_
 refine gnt (hK19 _ _ ?_)
 refine gc_block ?_
 obtain rfl : x = n := by omega
 try simp only [sL]
 refine gc_loopT ([(0, _), (1, _), (2, _), (6, _), (8, _), (17, _)] : Env) (fun s : (List (Ent Edg)) × (List Edg) × (Option Addr) × Nat × Nat => (fun (es : List (Ent Edg)) (pl : List Edg) (a : Option Addr) (c : Nat) (k : Nat) => (([(7, .slice a es.length c), (9, .int .i64 (k : Int))] : Env), ([(0, ownEI0 lab_path (.slice a es.length c) es), (1, poolI pl)] : List (Nat × Itm)), k ≤ 40 ∧ bfsP fr to (41 - k) k (es.map pay) = allP x fr to ∧ es.length ≤ 40 + x + fr.length ∧ (∀ y ∈ es, y.2.2 ∈ pl ∧ y.2.2.2.length ≤ k), 41 - k)) s.1 s.2.1 s.2.2.1 s.2.2.2.1 s.2.2.2.2) ((es0, pl0, a0, c0, 0)) (by repeat first | exact sub_nil | refine sub_cons rfl ?_) rfl ⟨Nat.zero_le _, by rw [he0]; rfl, by (try dsimp only); omega, hpl⟩ ?_
 rintro ⟨es, pl, a, c, k⟩ hinv KL20 hKL20
 simp only [sU, sL] at hinv hKL20 ⊢
 obtain ⟨hk, hb, hlen, hpl⟩ := hinv
 have hplo := hpl
 refine gc_seq fun K21 hK21 => ?_
 refine gc_sr fun K22 hK22 => ?_
 refine gm ?_
 refine gm ?_
 refine gv (qt_len rfl rfl (lab_ul0 lab_path) (fun w M => lenV_E0 (mem_ownE0 (n := 0) M rfl))) ?_
 refine gv (qt_lss rfl rfl rfl) ?_
 refine g_splitv (.free rfl) rfl rfl (qt_move rfl rfl) (fun hs7_4 => ?_) (fun hs7_4 => ?_)
 ·try simp only [sA] at hs7_4
  refine gvh (qt_move rfl rfl) ?_
  refine gvh (qt_len rfl rfl (lab_ul0 lab_path) (fun w M => lenV_E0 (mem_ownE0 (n := 0) M rfl))) ?_
  refine gvh (qt_leq rfl rfl rfl) ?_
  refine gv (qt_pick_t rfl rfl rfl) ?_
  refine gnt (hK22 _ _ ?_)
  refine gc_cond rfl (fun hc1 => ?_) (fun hc1 => ?_)
  ·try simp only [sA] at hc1
   refine gc_skip ?_
   refine gk_then (hK21 _ _ ?_)
   refine gc_seq fun K23 hK23 => ?_
   refine gc_block ?_
   refine gc_sr fun K24 hK24 => ?_
   refine gas ?_
   refine gnt (hK24 _ _ ?_)
   refine gc_block ?_
   try simp only [sL]
   refine gc_loopT ([(0, _), (1, _), (2, _), (6, _), (8, _), (9, _), (17, _), (35, _)] : Env) (fun s : (List (Ent Edg)) × (List Edg) × (Option Addr) × Nat × Nat => (fun (es2 : List (Ent Edg)) (pl2 : List Edg) (a2 : Option Addr) (c2 : Nat) (e : Nat) => (([(7, .slice a2 es2.length c2), (10, .int .i64 (e : Int))] : Env), ([(0, ownEI0 lab_path (.slice a2 es2.length c2) es2), (1, poolI pl2)] : List (Nat × Itm)), e ≤ fr.length ∧ es2.map pay = es.map pay ++ extP fr to (payA es k) e ∧ es2.length ≤ es.length + e ∧ (∀ y ∈ es2, y.2.2 ∈ pl2 ∧ y.2.2.2.length ≤ k + 1), fr.length - e)) s.1 s.2.1 s.2.2.1 s.2.2.2.1 s.2.2.2.2) ((es, pl, a, c, 0)) (by repeat first | exact sub_nil | refine sub_cons rfl ?_) rfl ⟨Nat.zero_le _, by simp [extP], by (try dsimp only); omega, pl_le hpl (by omega)⟩ ?_
   rintro ⟨es2, pl2, a2, c2, e⟩ hinv KL25 hKL25
   simp only [sU, sL] at hinv hKL25 ⊢
   obtain ⟨he, he2, hl2, hpl⟩ := hinv
   obtain ⟨hk2, hpk⟩ := payA_pre he2 (k := k) (by omega)
   have hlk : (atE0 es2 (k : Int)).2.2.2.length ≤ k := by
    have e1 : (atE0 es2 (k : Int)).2.2.2 = (atE0 es (k : Int)).2.2.2 := congrArg (fun p : Pay => p.2.2) hpk
    rw [e1]; exact (hplo _ (atE0_mem (by omega) (by omega))).2
   refine gc_seq fun K26 hK26 => ?_
   refine gc_sr fun K27 hK27 => ?_
   refine gm ?_
   refine gm ?_
   refine gv (qln (fun w M => lenV_rd h1)) ?_
   refine gv (qt_lss rfl rfl rfl) ?_
   refine gnt (hK27 _ _ ?_)
   refine gc_cond rfl (fun hc2 => ?_) (fun hc2 => ?_)
   ·try simp only [sA] at hc2
    refine gc_skip ?_
    refine gk_then (hK26 _ _ ?_)
    refine gc_seq fun K28 hK28 => ?_
    refine gc_block ?_
    refine gc_seq fun K29 hK29 => ?_
    refine gc_draw (by kernel_rfl) ?_
    refine gdv (qt_move rfl rfl) ?_
    refine gdv (qt_move rfl rfl) ?_
    refine gdv (qti (fun w M => lenA_rd h1)) ?_
    refine gdv (qtd (fun w M => mem_rd M h1)) ?_
    refine gdv (qt_move rfl rfl) ?_
    refine gdv (qt_move rfl rfl) ?_
    refine gdv (qt_indexP rfl rfl rfl rfl (fun w M => lenA_E0 (mem_ownE0 (n := 0) M rfl)) (by omega) (by omega)) ?_
    refine gdv (qt_fieldPL (z := 0) (off := 1) rfl rfl underlying127 rfl (by kernel_rfl) rfl (fun w M => lenA_E0 (mem_ownE0 (n := 0) M rfl)) (by omega) (by omega)) ?_
    refine gdv (qt_loadF1 rfl rfl underlying2 rfl (fun w M => mem_ownE0 (n := 0) M rfl) (by omega) (by omega)) ?_
    refine gdv (qt_eql rfl rfl rfl) ?_
    refine gd_nil ?_
    refine gk_then (hK29 _ _ ?_)
    refine gc_cond rfl (fun hc3 => ?_) (fun hc3 => ?_)
    ·try simp only [sA] at hc3
     have hce := hc3
     refine gc_pure (fun w M => lenA_E0 (mem_ownE0 (n := 0) M rfl)) fun hLA => ?_
     try simp only [sL]
     refine ga_start _ (fun w M => mem_erase 0 (M)) ?_
     refine gav 0 rfl (qt_move rfl rfl) ?_
     refine gav 1 rfl (qt_move rfl rfl) ?_
     refine gav 2 rfl (qt_move rfl rfl) ?_
     refine gav 3 rfl (qt_indexP rfl rfl rfl rfl (fun w M => hLA) (by omega) (by omega)) ?_
     refine gav 4 rfl (qt_fieldPL (z := 0) (off := 0) rfl rfl underlying127 rfl (by kernel_rfl) rfl (fun w M => hLA) (by omega) (by omega)) ?_
     refine gav 6 rfl (qt_move rfl rfl) ?_
     refine gav 7 rfl (qt_move rfl rfl) ?_
     refine gav 8 rfl (qti (fun w M => lenA_rd h2)) ?_
     refine gav 9 rfl (qtd (fun w M => mem_rd M h2)) ?_
     refine gav 10 rfl (qt_move rfl rfl) ?_
     refine gav 11 rfl (qt_move rfl rfl) ?_
     refine gav 12 rfl (qt_indexP rfl rfl rfl rfl (fun w M => hLA) (by omega) (by omega)) ?_
     refine gav 13 rfl (qt_fieldPL (z := 0) (off := 2) rfl rfl underlying127 rfl (by kernel_rfl) rfl (fun w M => hLA) (by omega) (by omega)) ?_
     refine gav 16 rfl (qt_move rfl rfl) ?_
     refine ga_three 5 14 17 (by kernel_rfl) rfl (.free rfl) rfl (.free rfl) rfl (.free rfl) (fun K30 hK30 => ?_) (fun K30 hK30 => ?_) (fun K30 hK30 => ?_)
     ·refine gov (qt_loadF0 rfl rfl underlying2 rfl (fun w M => mem_ownE0 (n := 0) M rfl) (by omega) (by omega)) ?_
      refine hK30 _ _ (fun w M => (ms1 0 2 M :)) ?_
      refine gat 14 17 (fun K32 hK32 => ?_) (fun K32 hK32 => ?_)
      ·refine gov (qt_loadF2 rfl rfl underlying24 rfl (fun w M => mem_ownE0 (n := 0) M rfl) (by omega) (by omega)) ?_
       refine hK32 _ _ (fun w M => (ms1 0 2 M :)) ?_
       refine gat 15 17 (fun K34 hK34 => ?_) (fun K34 hK34 => ?_)
       ·refine go_callL rfl rfl rfl func68 rfl (by decide) rfl (fun w M => specOwn_any w _ _ (mem_pool (n := 1) M rfl (hpl _ (atE0_mem (by omega) (by omega))).1)) ?_
        intro va35 vc35
        refine hK34 _ _ (fun w M => (ms1 0 2 M :)) ?_
        refine gao 17 fun K38 hK38 => ?_
        refine go_slice1 rfl rfl rfl rfl underlying24 ?_
        intro B37
        refine hK38 _ _ (fun w M => (ms1 0 2 M :)) ?_
        refine gao 18 fun K40 hK40 => ?_
        refine go_append (n := 2) (m := 3) rfl rfl rfl underlying24 rfl rfl rfl rfl (by omega) ?_
        intro va39 vc39
        refine hK40 _ _ (fun w M => (ms1 0 2 M :)) ?_
        refine gav 19 rfl (qt_build rfl rfl bt_l03Path) ?_
        refine gao 20 fun K42 hK42 => ?_
        refine go_sliceP1 (m := 2) rfl rfl rfl rfl rfl rfl ?_
        intro B41
        refine hK42 _ _ (fun w M => (ms1 0 2 M :)) ?_
        refine gao 21 fun K44 hK44 => ?_
        refine go_appendE0 lab_path (n := 0) (m := 4) rfl rfl rfl rfl rfl rfl rfl rfl (show _ ≤ 3000000000000 by omega) ?_
        intro va43 vc43
        refine hK44 _ _ (fun w M => (ms1 0 2 M :)) ?_
        refine gav 22 rfl (qt_assign rfl rfl) ?_
        refine ga_done (by kernel_rfl) ?_
        refine gk_block ?_
        refine gk_then (hK28 _ _ ?_)
        refine gc_region ?_
        refine gm ?_
        refine gv (qt_add rfl rfl rfl (by omega)) ?_
        refine gas ?_
        refine g_nil ?_
        first | refine gk_poolA (n := 1) (m := 2) (m' := 1) (xs := (atE0 es2 (k : Int)).2.2.2 ++ [(e : Int)]) rfl rfl rfl ?_ | refine gk_poolA (n := 1) (m := 3) (m' := 2) (xs := (atE0 es2 (k : Int)).2.2.2 ++ [(e : Int)]) rfl rfl rfl ?_
        refine gk_then (gk_take 2 ?_)
        refine gk_sub ?hs_45 (hKL25 ((_, _, _, _, e + 1)) ?hi_45 ?hm_45)
        case hs_45 => repeat first | exact sub_nil | refine sub_cons rfl ?_
        case hi_45 => exact ⟨by (try dsimp only); omega, all_push hpk he2 hce, by (try dsimp only); simp; omega, pl_push hpl (by simp; omega)⟩
        case hm_45 => (try dsimp only); omega
       refine go_slice1 rfl rfl rfl rfl underlying24 ?_
       intro B46
       refine hK34 _ _ (fun w M => (ms1 0 2 M :)) ?_
       refine gao 15 fun K49 hK49 => ?_
       refine go_callL rfl rfl rfl func68 rfl (by decide) rfl (fun w M => specOwn_any w _ _ (mem_pool (n := 1) M rfl (hpl _ (atE0_mem (by omega) (by omega))).1)) ?_
       intro va48 vc48
       refine hK49 _ _ (fun w M => (ms1 0 2 M :)) ?_
       refine gao 18 fun K51 hK51 => ?_
       refine go_append (n := 3) (m := 2) rfl rfl rfl underlying24 rfl rfl rfl rfl (by omega) ?_
       intro va50 vc50
       refine hK51 _ _ (fun w M => (ms1 0 2 M :)) ?_
       refine gav 19 rfl (qt_build rfl rfl bt_l03Path) ?_
       refine gao 20 fun K53 hK53 => ?_
       refine go_sliceP1 (m := 3) rfl rfl rfl rfl rfl rfl ?_
       intro B52
       refine hK53 _ _ (fun w M => (ms1 0 2 M :)) ?_
       refine gao 21 fun K55 hK55 => ?_
       refine go_appendE0 lab_path (n := 0) (m := 4) rfl rfl rfl rfl rfl rfl rfl rfl (show _ ≤ 3000000000000 by omega) ?_
       intro va54 vc54
       refine hK55 _ _ (fun w M => (ms1 0 2 M :)) ?_
       refine gav 22 rfl (qt_assign rfl rfl) ?_
       refine ga_done (by kernel_rfl) ?_
       refine gk_block ?_
       refine gk_then (hK28 _ _ ?_)
       refine gc_region ?_
       refine gm ?_
       refine gv (qt_add rfl rfl rfl (by omega)) ?_
       refine gas ?_
       refine g_nil ?_
       first | refine gk_poolA (n := 1) (m := 2) (m' := 1) (xs := (atE0 es2 (k : Int)).2.2.2 ++ [(e : Int)]) rfl rfl rfl ?_ | refine gk_poolA (n := 1) (m := 3) (m' := 2) (xs := (atE0 es2 (k : Int)).2.2.2 ++ [(e : Int)]) rfl rfl rfl ?_
       refine gk_then (gk_take 2 ?_)
       refine gk_sub ?hs_56 (hKL25 ((_, _, _, _, e + 1)) ?hi_56 ?hm_56)
       case hs_56 => repeat first | exact sub_nil | refine sub_cons rfl ?_
       case hi_56 => exact ⟨by (try dsimp only); omega, all_push hpk he2 hce, by (try dsimp only); simp; omega, pl_push hpl (by simp; omega)⟩
       case hm_56 => (try dsimp only); omega
      refine go_slice1 rfl rfl rfl rfl underlying24 ?_
      intro B57
      refine hK32 _ _ (fun w M => (ms1 0 2 M :)) ?_
      refine gao 14 fun K59 hK59 => ?_
      refine gov (qt_loadF2 rfl rfl underlying24 rfl (fun w M => mem_ownE0 (n := 0) M rfl) (by omega) (by omega)) ?_
      refine hK59 _ _ (fun w M => (ms1 0 2 M :)) ?_
      refine gao 15 fun K61 hK61 => ?_
      refine go_callL rfl rfl rfl func68 rfl (by decide) rfl (fun w M => specOwn_any w _ _ (mem_pool (n := 1) M rfl (hpl _ (atE0_mem (by omega) (by omega))).1)) ?_
      intro va60 vc60
      refine hK61 _ _ (fun w M => (ms1 0 2 M :)) ?_
      refine gao 18 fun K63 hK63 => ?_
      refine go_append (n := 3) (m := 2) rfl rfl rfl underlying24 rfl rfl rfl rfl (by omega) ?_
      intro va62 vc62
      refine hK63 _ _ (fun w M => (ms1 0 2 M :)) ?_
      refine gav 19 rfl (qt_build rfl rfl bt_l03Path) ?_
      refine gao 20 fun K65 hK65 => ?_
      refine go_sliceP1 (m := 3) rfl rfl rfl rfl rfl rfl ?_
      intro B64
      refine hK65 _ _ (fun w M => (ms1 0 2 M :)) ?_
      refine gao 21 fun K67 hK67 => ?_
      refine go_appendE0 lab_path (n := 0) (m := 4) rfl rfl rfl rfl rfl rfl rfl rfl (show _ ≤ 3000000000000 by omega) ?_
      intro va66 vc66
      refine hK67 _ _ (fun w M => (ms1 0 2 M :)) ?_
      refine gav 22 rfl (qt_assign rfl rfl) ?_
      refine ga_done (by kernel_rfl) ?_
      refine gk_block ?_
      refine gk_then (hK28 _ _ ?_)
      refine gc_region ?_
      refine gm ?_
      refine gv (qt_add rfl rfl rfl (by omega)) ?_
      refine gas ?_
      refine g_nil ?_
      first | refine gk_poolA (n := 1) (m := 2) (m' := 1) (xs := (atE0 es2 (k : Int)).2.2.2 ++ [(e : Int)]) rfl rfl rfl ?_ | refine gk_poolA (n := 1) (m := 3) (m' := 2) (xs := (atE0 es2 (k : Int)).2.2.2 ++ [(e : Int)]) rfl rfl rfl ?_
      refine gk_then (gk_take 2 ?_)
      refine gk_sub ?hs_68 (hKL25 ((_, _, _, _, e + 1)) ?hi_68 ?hm_68)
      case hs_68 => repeat first | exact sub_nil | refine sub_cons rfl ?_
      case hi_68 => exact ⟨by (try dsimp only); omega, all_push hpk he2 hce, by (try dsimp only); simp; omega, pl_push hpl (by simp; omega)⟩
      case hm_68 => (try dsimp only); omega
     ·refine gov (qt_loadF2 rfl rfl underlying24 rfl (fun w M => mem_ownE0 (n := 0) M rfl) (by omega) (by omega)) ?_
      refine hK30 _ _ (fun w M => (ms1 0 2 M :)) ?_
      refine ga_three 5 15 17 (by kernel_rfl) rfl (.free rfl) rfl (.free rfl) rfl (.free rfl) (fun K70 hK70 => ?_) (fun K70 hK70 => ?_) (fun K70 hK70 => ?_)
      ·refine gov (qt_loadF0 rfl rfl underlying2 rfl (fun w M => mem_ownE0 (n := 0) M rfl) (by omega) (by omega)) ?_
       refine hK70 _ _ (fun w M => (ms1 0 2 M :)) ?_
       refine gat 15 17 (fun K72 hK72 => ?_) (fun K72 hK72 => ?_)
       ·refine go_callL rfl rfl rfl func68 rfl (by decide) rfl (fun w M => specOwn_any w _ _ (mem_pool (n := 1) M rfl (hpl _ (atE0_mem (by omega) (by omega))).1)) ?_
        intro va73 vc73
        refine hK72 _ _ (fun w M => (ms1 0 2 M :)) ?_
        refine gao 17 fun K76 hK76 => ?_
        refine go_slice1 rfl rfl rfl rfl underlying24 ?_
        intro B75
        refine hK76 _ _ (fun w M => (ms1 0 2 M :)) ?_
        refine gao 18 fun K78 hK78 => ?_
        refine go_append (n := 2) (m := 3) rfl rfl rfl underlying24 rfl rfl rfl rfl (by omega) ?_
        intro va77 vc77
        refine hK78 _ _ (fun w M => (ms1 0 2 M :)) ?_
        refine gav 19 rfl (qt_build rfl rfl bt_l03Path) ?_
        refine gao 20 fun K80 hK80 => ?_
        refine go_sliceP1 (m := 2) rfl rfl rfl rfl rfl rfl ?_
        intro B79
        refine hK80 _ _ (fun w M => (ms1 0 2 M :)) ?_
        refine gao 21 fun K82 hK82 => ?_
        refine go_appendE0 lab_path (n := 0) (m := 4) rfl rfl rfl rfl rfl rfl rfl rfl (show _ ≤ 3000000000000 by omega) ?_
        intro va81 vc81
        refine hK82 _ _ (fun w M => (ms1 0 2 M :)) ?_
        refine gav 22 rfl (qt_assign rfl rfl) ?_
        refine ga_done (by kernel_rfl) ?_
        refine gk_block ?_
        refine gk_then (hK28 _ _ ?_)
        refine gc_region ?_
        refine gm ?_
        refine gv (qt_add rfl rfl rfl (by omega)) ?_
        refine gas ?_
        refine g_nil ?_
        first | refine gk_poolA (n := 1) (m := 2) (m' := 1) (xs := (atE0 es2 (k : Int)).2.2.2 ++ [(e : Int)]) rfl rfl rfl ?_ | refine gk_poolA (n := 1) (m := 3) (m' := 2) (xs := (atE0 es2 (k : Int)).2.2.2 ++ [(e : Int)]) rfl rfl rfl ?_
        refine gk_then (gk_take 2 ?_)
        refine gk_sub ?hs_83 (hKL25 ((_, _, _, _, e + 1)) ?hi_83 ?hm_83)
        case hs_83 => repeat first | exact sub_nil | refine sub_cons rfl ?_
        case hi_83 => exact ⟨by (try dsimp only); omega, all_push hpk he2 hce, by (try dsimp only); simp; omega, pl_push hpl (by simp; omega)⟩
        case hm_83 => (try dsimp only); omega
       refine go_slice1 rfl rfl rfl rfl underlying24 ?_
       intro B84
       refine hK72 _ _ (fun w M => (ms1 0 2 M :)) ?_
       refine gao 15 fun K87 hK87 => ?_
       refine go_callL rfl rfl rfl func68 rfl (by decide) rfl (fun w M => specOwn_any w _ _ (mem_pool (n := 1) M rfl (hpl _ (atE0_mem (by omega) (by omega))).1)) ?_
       intro va86 vc86
       refine hK87 _ _ (fun w M => (ms1 0 2 M :)) ?_
       refine gao 18 fun K89 hK89 => ?_
       refine go_append (n := 3) (m := 2) rfl rfl rfl underlying24 rfl rfl rfl rfl (by omega) ?_
       intro va88 vc88
       refine hK89 _ _ (fun w M => (ms1 0 2 M :)) ?_
       refine gav 19 rfl (qt_build rfl rfl bt_l03Path) ?_
       refine gao 20 fun K91 hK91 => ?_
       refine go_sliceP1 (m := 3) rfl rfl rfl rfl rfl rfl ?_
       intro B90
       refine hK91 _ _ (fun w M => (ms1 0 2 M :)) ?_
       refine gao 21 fun K93 hK93 => ?_
       refine go_appendE0 lab_path (n := 0) (m := 4) rfl rfl rfl rfl rfl rfl rfl rfl (show _ ≤ 3000000000000 by omega) ?_
       intro va92 vc92
       refine hK93 _ _ (fun w M => (ms1 0 2 M :)) ?_
       refine gav 22 rfl (qt_assign rfl rfl) ?_
       refine ga_done (by kernel_rfl) ?_
       refine gk_block ?_
       refine gk_then (hK28 _ _ ?_)
       refine gc_region ?_
       refine gm ?_
       refine gv (qt_add rfl rfl rfl (by omega)) ?_
       refine gas ?_
       refine g_nil ?_
       first | refine gk_poolA (n := 1) (m := 2) (m' := 1) (xs := (atE0 es2 (k : Int)).2.2.2 ++ [(e : Int)]) rfl rfl rfl ?_ | refine gk_poolA (n := 1) (m := 3) (m' := 2) (xs := (atE0 es2 (k : Int)).2.2.2 ++ [(e : Int)]) rfl rfl rfl ?_
       refine gk_then (gk_take 2 ?_)
       refine gk_sub ?hs_94 (hKL25 ((_, _, _, _, e + 1)) ?hi_94 ?hm_94)
       case hs_94 => repeat first | exact sub_nil | refine sub_cons rfl ?_
       case hi_94 => exact ⟨by (try dsimp only); omega, all_push hpk he2 hce, by (try dsimp only); simp; omega, pl_push hpl (by simp; omega)⟩
       case hm_94 => (try dsimp only); omega
      ·refine go_callL rfl rfl rfl func68 rfl (by decide) rfl (fun w M => specOwn_any w _ _ (mem_pool (n := 1) M rfl (hpl _ (atE0_mem (by omega) (by omega))).1)) ?_
       intro va95 vc95
       refine hK70 _ _ (fun w M => (ms1 0 2 M :)) ?_
       refine gat 5 17 (fun K97 hK97 => ?_) (fun K97 hK97 => ?_)
       ·refine gov (qt_loadF0 rfl rfl underlying2 rfl (fun w M => mem_ownE0 (n := 0) M rfl) (by omega) (by omega)) ?_
        refine hK97 _ _ (fun w M => (ms1 0 2 M :)) ?_
        refine gao 17 fun K100 hK100 => ?_
        refine go_slice1 rfl rfl rfl rfl underlying24 ?_
        intro B99
        refine hK100 _ _ (fun w M => (ms1 0 2 M :)) ?_
        refine gao 18 fun K102 hK102 => ?_
        refine go_append (n := 2) (m := 3) rfl rfl rfl underlying24 rfl rfl rfl rfl (by omega) ?_
        intro va101 vc101
        refine hK102 _ _ (fun w M => (ms1 0 2 M :)) ?_
        refine gav 19 rfl (qt_build rfl rfl bt_l03Path) ?_
        refine gao 20 fun K104 hK104 => ?_
        refine go_sliceP1 (m := 2) rfl rfl rfl rfl rfl rfl ?_
        intro B103
        refine hK104 _ _ (fun w M => (ms1 0 2 M :)) ?_
        refine gao 21 fun K106 hK106 => ?_
        refine go_appendE0 lab_path (n := 0) (m := 4) rfl rfl rfl rfl rfl rfl rfl rfl (show _ ≤ 3000000000000 by omega) ?_
        intro va105 vc105
        refine hK106 _ _ (fun w M => (ms1 0 2 M :)) ?_
        refine gav 22 rfl (qt_assign rfl rfl) ?_
        refine ga_done (by kernel_rfl) ?_
        refine gk_block ?_
        refine gk_then (hK28 _ _ ?_)
        refine gc_region ?_
        refine gm ?_
        refine gv (qt_add rfl rfl rfl (by omega)) ?_
        refine gas ?_
        refine g_nil ?_
        first | refine gk_poolA (n := 1) (m := 2) (m' := 1) (xs := (atE0 es2 (k : Int)).2.2.2 ++ [(e : Int)]) rfl rfl rfl ?_ | refine gk_poolA (n := 1) (m := 3) (m' := 2) (xs := (atE0 es2 (k : Int)).2.2.2 ++ [(e : Int)]) rfl rfl rfl ?_
        refine gk_then (gk_take 2 ?_)
        refine gk_sub ?hs_107 (hKL25 ((_, _, _, _, e + 1)) ?hi_107 ?hm_107)
        case hs_107 => repeat first | exact sub_nil | refine sub_cons rfl ?_
        case hi_107 => exact ⟨by (try dsimp only); omega, all_push hpk he2 hce, by (try dsimp only); simp; omega, pl_push hpl (by simp; omega)⟩
        case hm_107 => (try dsimp only); omega
       refine go_slice1 rfl rfl rfl rfl underlying24 ?_
       intro B108
       refine hK97 _ _ (fun w M => (ms1 0 2 M :)) ?_
       refine gat 5 18 (fun K110 hK110 => ?_) (fun K110 hK110 => ?_)
       ·refine gov (qt_loadF0 rfl rfl underlying2 rfl (fun w M => mem_ownE0 (n := 0) M rfl) (by omega) (by omega)) ?_
        refine hK110 _ _ (fun w M => (ms1 0 2 M :)) ?_
        refine gao 18 fun K113 hK113 => ?_
        refine go_append (n := 2) (m := 3) rfl rfl rfl underlying24 rfl rfl rfl rfl (by omega) ?_
        intro va112 vc112
        refine hK113 _ _ (fun w M => (ms1 0 2 M :)) ?_
        refine gav 19 rfl (qt_build rfl rfl bt_l03Path) ?_
        refine gao 20 fun K115 hK115 => ?_
        refine go_sliceP1 (m := 2) rfl rfl rfl rfl rfl rfl ?_
        intro B114
        refine hK115 _ _ (fun w M => (ms1 0 2 M :)) ?_
        refine gao 21 fun K117 hK117 => ?_
        refine go_appendE0 lab_path (n := 0) (m := 4) rfl rfl rfl rfl rfl rfl rfl rfl (show _ ≤ 3000000000000 by omega) ?_
        intro va116 vc116
        refine hK117 _ _ (fun w M => (ms1 0 2 M :)) ?_
        refine gav 22 rfl (qt_assign rfl rfl) ?_
        refine ga_done (by kernel_rfl) ?_
        refine gk_block ?_
        refine gk_then (hK28 _ _ ?_)
        refine gc_region ?_
        refine gm ?_
        refine gv (qt_add rfl rfl rfl (by omega)) ?_
        refine gas ?_
        refine g_nil ?_
        first | refine gk_poolA (n := 1) (m := 2) (m' := 1) (xs := (atE0 es2 (k : Int)).2.2.2 ++ [(e : Int)]) rfl rfl rfl ?_ | refine gk_poolA (n := 1) (m := 3) (m' := 2) (xs := (atE0 es2 (k : Int)).2.2.2 ++ [(e : Int)]) rfl rfl rfl ?_
        refine gk_then (gk_take 2 ?_)
        refine gk_sub ?hs_118 (hKL25 ((_, _, _, _, e + 1)) ?hi_118 ?hm_118)
        case hs_118 => repeat first | exact sub_nil | refine sub_cons rfl ?_
        case hi_118 => exact ⟨by (try dsimp only); omega, all_push hpk he2 hce, by (try dsimp only); simp; omega, pl_push hpl (by simp; omega)⟩
        case hm_118 => (try dsimp only); omega
       refine go_append (n := 2) (m := 3) rfl rfl rfl underlying24 rfl rfl rfl rfl (by omega) ?_
       intro va119 vc119
       refine hK110 _ _ (fun w M => (ms1 0 2 M :)) ?_
       refine gao 5 fun K121 hK121 => ?_
       refine gov (qt_loadF0 rfl rfl underlying2 rfl (fun w M => mem_ownE0 (n := 0) M rfl) (by omega) (by omega)) ?_
       refine hK121 _ _ (fun w M => (ms1 0 2 M :)) ?_
       refine gav 19 rfl (qt_build rfl rfl bt_l03Path) ?_
       refine gao 20 fun K123 hK123 => ?_
       refine go_sliceP1 (m := 2) rfl rfl rfl rfl rfl rfl ?_
       intro B122
       refine hK123 _ _ (fun w M => (ms1 0 2 M :)) ?_
       refine gao 21 fun K125 hK125 => ?_
       refine go_appendE0 lab_path (n := 0) (m := 4) rfl rfl rfl rfl rfl rfl rfl rfl (show _ ≤ 3000000000000 by omega) ?_
       intro va124 vc124
       refine hK125 _ _ (fun w M => (ms1 0 2 M :)) ?_
       refine gav 22 rfl (qt_assign rfl rfl) ?_
       refine ga_done (by kernel_rfl) ?_
       refine gk_block ?_
       refine gk_then (hK28 _ _ ?_)
       refine gc_region ?_
       refine gm ?_
       refine gv (qt_add rfl rfl rfl (by omega)) ?_
       refine gas ?_
       refine g_nil ?_
       first | refine gk_poolA (n := 1) (m := 2) (m' := 1) (xs := (atE0 es2 (k : Int)).2.2.2 ++ [(e : Int)]) rfl rfl rfl ?_ | refine gk_poolA (n := 1) (m := 3) (m' := 2) (xs := (atE0 es2 (k : Int)).2.2.2 ++ [(e : Int)]) rfl rfl rfl ?_
       refine gk_then (gk_take 2 ?_)
       refine gk_sub ?hs_126 (hKL25 ((_, _, _, _, e + 1)) ?hi_126 ?hm_126)
       case hs_126 => repeat first | exact sub_nil | refine sub_cons rfl ?_
       case hi_126 => exact ⟨by (try dsimp only); omega, all_push hpk he2 hce, by (try dsimp only); simp; omega, pl_push hpl (by simp; omega)⟩
       case hm_126 => (try dsimp only); omega
      refine go_slice1 rfl rfl rfl rfl underlying24 ?_
      intro B127
      refine hK70 _ _ (fun w M => (ms1 0 2 M :)) ?_
      refine gat 5 15 (fun K129 hK129 => ?_) (fun K129 hK129 => ?_)
      ·refine gov (qt_loadF0 rfl rfl underlying2 rfl (fun w M => mem_ownE0 (n := 0) M rfl) (by omega) (by omega)) ?_
       refine hK129 _ _ (fun w M => (ms1 0 2 M :)) ?_
       refine gao 15 fun K132 hK132 => ?_
       refine go_callL rfl rfl rfl func68 rfl (by decide) rfl (fun w M => specOwn_any w _ _ (mem_pool (n := 1) M rfl (hpl _ (atE0_mem (by omega) (by omega))).1)) ?_
       intro va131 vc131
       refine hK132 _ _ (fun w M => (ms1 0 2 M :)) ?_
       refine gao 18 fun K134 hK134 => ?_
       refine go_append (n := 3) (m := 2) rfl rfl rfl underlying24 rfl rfl rfl rfl (by omega) ?_
       intro va133 vc133
       refine hK134 _ _ (fun w M => (ms1 0 2 M :)) ?_
       refine gav 19 rfl (qt_build rfl rfl bt_l03Path) ?_
       refine gao 20 fun K136 hK136 => ?_
       refine go_sliceP1 (m := 3) rfl rfl rfl rfl rfl rfl ?_
       intro B135
       refine hK136 _ _ (fun w M => (ms1 0 2 M :)) ?_
       refine gao 21 fun K138 hK138 => ?_
       refine go_appendE0 lab_path (n := 0) (m := 4) rfl rfl rfl rfl rfl rfl rfl rfl (show _ ≤ 3000000000000 by omega) ?_
       intro va137 vc137
       refine hK138 _ _ (fun w M => (ms1 0 2 M :)) ?_
       refine gav 22 rfl (qt_assign rfl rfl) ?_
       refine ga_done (by kernel_rfl) ?_
       refine gk_block ?_
       refine gk_then (hK28 _ _ ?_)
       refine gc_region ?_
       refine gm ?_
       refine gv (qt_add rfl rfl rfl (by omega)) ?_
       refine gas ?_
       refine g_nil ?_
       first | refine gk_poolA (n := 1) (m := 2) (m' := 1) (xs := (atE0 es2 (k : Int)).2.2.2 ++ [(e : Int)]) rfl rfl rfl ?_ | refine gk_poolA (n := 1) (m := 3) (m' := 2) (xs := (atE0 es2 (k : Int)).2.2.2 ++ [(e : Int)]) rfl rfl rfl ?_
       refine gk_then (gk_take 2 ?_)
       refine gk_sub ?hs_139 (hKL25 ((_, _, _, _, e + 1)) ?hi_139 ?hm_139)
       case hs_139 => repeat first | exact sub_nil | refine sub_cons rfl ?_
       case hi_139 => exact ⟨by (try dsimp only); omega, all_push hpk he2 hce, by (try dsimp only); simp; omega, pl_push hpl (by simp; omega)⟩
       case hm_139 => (try dsimp only); omega
      refine go_callL rfl rfl rfl func68 rfl (by decide) rfl (fun w M => specOwn_any w _ _ (mem_pool (n := 1) M rfl (hpl _ (atE0_mem (by omega) (by omega))).1)) ?_
      intro va140 vc140
      refine hK129 _ _ (fun w M => (ms1 0 2 M :)) ?_
      refine gat 5 18 (fun K142 hK142 => ?_) (fun K142 hK142 => ?_)
      ·refine gov (qt_loadF0 rfl rfl underlying2 rfl (fun w M => mem_ownE0 (n := 0) M rfl) (by omega) (by omega)) ?_
       refine hK142 _ _ (fun w M => (ms1 0 2 M :)) ?_
       refine gao 18 fun K145 hK145 => ?_
       refine go_append (n := 3) (m := 2) rfl rfl rfl underlying24 rfl rfl rfl rfl (by omega) ?_
       intro va144 vc144
       refine hK145 _ _ (fun w M => (ms1 0 2 M :)) ?_
       refine gav 19 rfl (qt_build rfl rfl bt_l03Path) ?_
       refine gao 20 fun K147 hK147 => ?_
       refine go_sliceP1 (m := 3) rfl rfl rfl rfl rfl rfl ?_
       intro B146
       refine hK147 _ _ (fun w M => (ms1 0 2 M :)) ?_
       refine gao 21 fun K149 hK149 => ?_
       refine go_appendE0 lab_path (n := 0) (m := 4) rfl rfl rfl rfl rfl rfl rfl rfl (show _ ≤ 3000000000000 by omega) ?_
       intro va148 vc148
       refine hK149 _ _ (fun w M => (ms1 0 2 M :)) ?_
       refine gav 22 rfl (qt_assign rfl rfl) ?_
       refine ga_done (by kernel_rfl) ?_
       refine gk_block ?_
       refine gk_then (hK28 _ _ ?_)
       refine gc_region ?_
       refine gm ?_
       refine gv (qt_add rfl rfl rfl (by omega)) ?_
       refine gas ?_
       refine g_nil ?_
       first | refine gk_poolA (n := 1) (m := 2) (m' := 1) (xs := (atE0 es2 (k : Int)).2.2.2 ++ [(e : Int)]) rfl rfl rfl ?_ | refine gk_poolA (n := 1) (m := 3) (m' := 2) (xs := (atE0 es2 (k : Int)).2.2.2 ++ [(e : Int)]) rfl rfl rfl ?_
       refine gk_then (gk_take 2 ?_)
       refine gk_sub ?hs_150 (hKL25 ((_, _, _, _, e + 1)) ?hi_150 ?hm_150)
       case hs_150 => repeat first | exact sub_nil | refine sub_cons rfl ?_
       case hi_150 => exact ⟨by (try dsimp only); omega, all_push hpk he2 hce, by (try dsimp only); simp; omega, pl_push hpl (by simp; omega)⟩
       case hm_150 => (try dsimp only); omega
      refine go_append (n := 3) (m := 2) rfl rfl rfl underlying24 rfl rfl rfl rfl (by omega) ?_
      intro va151 vc151
      refine hK142 _ _ (fun w M => (ms1 0 2 M :)) ?_
      refine gao 5 fun K153 hK153 => ?_
      refine gov (qt_loadF0 rfl rfl underlying2 rfl (fun w M => mem_ownE0 (n := 0) M rfl) (by omega) (by omega)) ?_
      refine hK153 _ _ (fun w M => (ms1 0 2 M :)) ?_
      refine gav 19 rfl (qt_build rfl rfl bt_l03Path) ?_
      refine gao 20 fun K155 hK155 => ?_
      refine go_sliceP1 (m := 3) rfl rfl rfl rfl rfl rfl ?_
      intro B154
      refine hK155 _ _ (fun w M => (ms1 0 2 M :)) ?_
      refine gao 21 fun K157 hK157 => ?_
      refine go_appendE0 lab_path (n := 0) (m := 4) rfl rfl rfl rfl rfl rfl rfl rfl (show _ ≤ 3000000000000 by omega) ?_
      intro va156 vc156
      refine hK157 _ _ (fun w M => (ms1 0 2 M :)) ?_
      refine gav 22 rfl (qt_assign rfl rfl) ?_
      refine ga_done (by kernel_rfl) ?_
      refine gk_block ?_
      refine gk_then (hK28 _ _ ?_)
      refine gc_region ?_
      refine gm ?_
      refine gv (qt_add rfl rfl rfl (by omega)) ?_
      refine gas ?_
      refine g_nil ?_
      first | refine gk_poolA (n := 1) (m := 2) (m' := 1) (xs := (atE0 es2 (k : Int)).2.2.2 ++ [(e : Int)]) rfl rfl rfl ?_ | refine gk_poolA (n := 1) (m := 3) (m' := 2) (xs := (atE0 es2 (k : Int)).2.2.2 ++ [(e : Int)]) rfl rfl rfl ?_
      refine gk_then (gk_take 2 ?_)
      refine gk_sub ?hs_158 (hKL25 ((_, _, _, _, e + 1)) ?hi_158 ?hm_158)
      case hs_158 => repeat first | exact sub_nil | refine sub_cons rfl ?_
      case hi_158 => exact ⟨by (try dsimp only); omega, all_push hpk he2 hce, by (try dsimp only); simp; omega, pl_push hpl (by simp; omega)⟩
      case hm_158 => (try dsimp only); omega
     refine go_slice1 rfl rfl rfl rfl underlying24 ?_
     intro B159
     refine hK30 _ _ (fun w M => (ms1 0 2 M :)) ?_
     refine gat 5 14 (fun K161 hK161 => ?_) (fun K161 hK161 => ?_)
     ·refine gov (qt_loadF0 rfl rfl underlying2 rfl (fun w M => mem_ownE0 (n := 0) M rfl) (by omega) (by omega)) ?_
      refine hK161 _ _ (fun w M => (ms1 0 2 M :)) ?_
      refine gao 14 fun K163 hK163 => ?_
      refine gov (qt_loadF2 rfl rfl underlying24 rfl (fun w M => mem_ownE0 (n := 0) M rfl) (by omega) (by omega)) ?_
      refine hK163 _ _ (fun w M => (ms1 0 2 M :)) ?_
      refine gao 15 fun K165 hK165 => ?_
      refine go_callL rfl rfl rfl func68 rfl (by decide) rfl (fun w M => specOwn_any w _ _ (mem_pool (n := 1) M rfl (hpl _ (atE0_mem (by omega) (by omega))).1)) ?_
      intro va164 vc164
      refine hK165 _ _ (fun w M => (ms1 0 2 M :)) ?_
      refine gao 18 fun K167 hK167 => ?_
      refine go_append (n := 3) (m := 2) rfl rfl rfl underlying24 rfl rfl rfl rfl (by omega) ?_
      intro va166 vc166
      refine hK167 _ _ (fun w M => (ms1 0 2 M :)) ?_
      refine gav 19 rfl (qt_build rfl rfl bt_l03Path) ?_
      refine gao 20 fun K169 hK169 => ?_
      refine go_sliceP1 (m := 3) rfl rfl rfl rfl rfl rfl ?_
      intro B168
      refine hK169 _ _ (fun w M => (ms1 0 2 M :)) ?_
      refine gao 21 fun K171 hK171 => ?_
      refine go_appendE0 lab_path (n := 0) (m := 4) rfl rfl rfl rfl rfl rfl rfl rfl (show _ ≤ 3000000000000 by omega) ?_
      intro va170 vc170
      refine hK171 _ _ (fun w M => (ms1 0 2 M :)) ?_
      refine gav 22 rfl (qt_assign rfl rfl) ?_
      refine ga_done (by kernel_rfl) ?_
      refine gk_block ?_
      refine gk_then (hK28 _ _ ?_)
      refine gc_region ?_
      refine gm ?_
      refine gv (qt_add rfl rfl rfl (by omega)) ?_
      refine gas ?_
      refine g_nil ?_
      first | refine gk_poolA (n := 1) (m := 2) (m' := 1) (xs := (atE0 es2 (k : Int)).2.2.2 ++ [(e : Int)]) rfl rfl rfl ?_ | refine gk_poolA (n := 1) (m := 3) (m' := 2) (xs := (atE0 es2 (k : Int)).2.2.2 ++ [(e : Int)]) rfl rfl rfl ?_
      refine gk_then (gk_take 2 ?_)
      refine gk_sub ?hs_172 (hKL25 ((_, _, _, _, e + 1)) ?hi_172 ?hm_172)
      case hs_172 => repeat first | exact sub_nil | refine sub_cons rfl ?_
      case hi_172 => exact ⟨by (try dsimp only); omega, all_push hpk he2 hce, by (try dsimp only); simp; omega, pl_push hpl (by simp; omega)⟩
      case hm_172 => (try dsimp only); omega
     refine gov (qt_loadF2 rfl rfl underlying24 rfl (fun w M => mem_ownE0 (n := 0) M rfl) (by omega) (by omega)) ?_
     refine hK161 _ _ (fun w M => (ms1 0 2 M :)) ?_
     refine gat 5 15 (fun K174 hK174 => ?_) (fun K174 hK174 => ?_)
     ·refine gov (qt_loadF0 rfl rfl underlying2 rfl (fun w M => mem_ownE0 (n := 0) M rfl) (by omega) (by omega)) ?_
      refine hK174 _ _ (fun w M => (ms1 0 2 M :)) ?_
      refine gao 15 fun K177 hK177 => ?_
      refine go_callL rfl rfl rfl func68 rfl (by decide) rfl (fun w M => specOwn_any w _ _ (mem_pool (n := 1) M rfl (hpl _ (atE0_mem (by omega) (by omega))).1)) ?_
      intro va176 vc176
      refine hK177 _ _ (fun w M => (ms1 0 2 M :)) ?_
      refine gao 18 fun K179 hK179 => ?_
      refine go_append (n := 3) (m := 2) rfl rfl rfl underlying24 rfl rfl rfl rfl (by omega) ?_
      intro va178 vc178
      refine hK179 _ _ (fun w M => (ms1 0 2 M :)) ?_
      refine gav 19 rfl (qt_build rfl rfl bt_l03Path) ?_
      refine gao 20 fun K181 hK181 => ?_
      refine go_sliceP1 (m := 3) rfl rfl rfl rfl rfl rfl ?_
      intro B180
      refine hK181 _ _ (fun w M => (ms1 0 2 M :)) ?_
      refine gao 21 fun K183 hK183 => ?_
      refine go_appendE0 lab_path (n := 0) (m := 4) rfl rfl rfl rfl rfl rfl rfl rfl (show _ ≤ 3000000000000 by omega) ?_
      intro va182 vc182
      refine hK183 _ _ (fun w M => (ms1 0 2 M :)) ?_
      refine gav 22 rfl (qt_assign rfl rfl) ?_
      refine ga_done (by kernel_rfl) ?_
      refine gk_block ?_
      refine gk_then (hK28 _ _ ?_)
      refine gc_region ?_
      refine gm ?_
      refine gv (qt_add rfl rfl rfl (by omega)) ?_
      refine gas ?_
      refine g_nil ?_
      first | refine gk_poolA (n := 1) (m := 2) (m' := 1) (xs := (atE0 es2 (k : Int)).2.2.2 ++ [(e : Int)]) rfl rfl rfl ?_ | refine gk_poolA (n := 1) (m := 3) (m' := 2) (xs := (atE0 es2 (k : Int)).2.2.2 ++ [(e : Int)]) rfl rfl rfl ?_
      refine gk_then (gk_take 2 ?_)
      refine gk_sub ?hs_184 (hKL25 ((_, _, _, _, e + 1)) ?hi_184 ?hm_184)
      case hs_184 => repeat first | exact sub_nil | refine sub_cons rfl ?_
      case hi_184 => exact ⟨by (try dsimp only); omega, all_push hpk he2 hce, by (try dsimp only); simp; omega, pl_push hpl (by simp; omega)⟩
      case hm_184 => (try dsimp only); omega
     refine go_callL rfl rfl rfl func68 rfl (by decide) rfl (fun w M => specOwn_any w _ _ (mem_pool (n := 1) M rfl (hpl _ (atE0_mem (by omega) (by omega))).1)) ?_
     intro va185 vc185
     refine hK174 _ _ (fun w M => (ms1 0 2 M :)) ?_
     refine gat 5 18 (fun K187 hK187 => ?_) (fun K187 hK187 => ?_)
     ·refine gov (qt_loadF0 rfl rfl underlying2 rfl (fun w M => mem_ownE0 (n := 0) M rfl) (by omega) (by omega)) ?_
      refine hK187 _ _ (fun w M => (ms1 0 2 M :)) ?_
      refine gao 18 fun K190 hK190 => ?_
      refine go_append (n := 3) (m := 2) rfl rfl rfl underlying24 rfl rfl rfl rfl (by omega) ?_
      intro va189 vc189
      refine hK190 _ _ (fun w M => (ms1 0 2 M :)) ?_
      refine gav 19 rfl (qt_build rfl rfl bt_l03Path) ?_
      refine gao 20 fun K192 hK192 => ?_
      refine go_sliceP1 (m := 3) rfl rfl rfl rfl rfl rfl ?_
      intro B191
      refine hK192 _ _ (fun w M => (ms1 0 2 M :)) ?_
      refine gao 21 fun K194 hK194 => ?_
      refine go_appendE0 lab_path (n := 0) (m := 4) rfl rfl rfl rfl rfl rfl rfl rfl (show _ ≤ 3000000000000 by omega) ?_
      intro va193 vc193
      refine hK194 _ _ (fun w M => (ms1 0 2 M :)) ?_
      refine gav 22 rfl (qt_assign rfl rfl) ?_
      refine ga_done (by kernel_rfl) ?_
      refine gk_block ?_
      refine gk_then (hK28 _ _ ?_)
      refine gc_region ?_
      refine gm ?_
      refine gv (qt_add rfl rfl rfl (by omega)) ?_
      refine gas ?_
      refine g_nil ?_
      first | refine gk_poolA (n := 1) (m := 2) (m' := 1) (xs := (atE0 es2 (k : Int)).2.2.2 ++ [(e : Int)]) rfl rfl rfl ?_ | refine gk_poolA (n := 1) (m := 3) (m' := 2) (xs := (atE0 es2 (k : Int)).2.2.2 ++ [(e : Int)]) rfl rfl rfl ?_
      refine gk_then (gk_take 2 ?_)
      refine gk_sub ?hs_195 (hKL25 ((_, _, _, _, e + 1)) ?hi_195 ?hm_195)
      case hs_195 => repeat first | exact sub_nil | refine sub_cons rfl ?_
      case hi_195 => exact ⟨by (try dsimp only); omega, all_push hpk he2 hce, by (try dsimp only); simp; omega, pl_push hpl (by simp; omega)⟩
      case hm_195 => (try dsimp only); omega
     refine go_append (n := 3) (m := 2) rfl rfl rfl underlying24 rfl rfl rfl rfl (by omega) ?_
     intro va196 vc196
     refine hK187 _ _ (fun w M => (ms1 0 2 M :)) ?_
     refine gao 5 fun K198 hK198 => ?_
     refine gov (qt_loadF0 rfl rfl underlying2 rfl (fun w M => mem_ownE0 (n := 0) M rfl) (by omega) (by omega)) ?_
     refine hK198 _ _ (fun w M => (ms1 0 2 M :)) ?_
     refine gav 19 rfl (qt_build rfl rfl bt_l03Path) ?_
     refine gao 20 fun K200 hK200 => ?_
     refine go_sliceP1 (m := 3) rfl rfl rfl rfl rfl rfl ?_
     intro B199
     refine hK200 _ _ (fun w M => (ms1 0 2 M :)) ?_
     refine gao 21 fun K202 hK202 => ?_
     refine go_appendE0 lab_path (n := 0) (m := 4) rfl rfl rfl rfl rfl rfl rfl rfl (show _ ≤ 3000000000000 by omega) ?_
     intro va201 vc201
     refine hK202 _ _ (fun w M => (ms1 0 2 M :)) ?_
     refine gav 22 rfl (qt_assign rfl rfl) ?_
     refine ga_done (by kernel_rfl) ?_
     refine gk_block ?_
     refine gk_then (hK28 _ _ ?_)
     refine gc_region ?_
     refine gm ?_
     refine gv (qt_add rfl rfl rfl (by omega)) ?_
     refine gas ?_
     refine g_nil ?_
     first | refine gk_poolA (n := 1) (m := 2) (m' := 1) (xs := (atE0 es2 (k : Int)).2.2.2 ++ [(e : Int)]) rfl rfl rfl ?_ | refine gk_poolA (n := 1) (m := 3) (m' := 2) (xs := (atE0 es2 (k : Int)).2.2.2 ++ [(e : Int)]) rfl rfl rfl ?_
     refine gk_then (gk_take 2 ?_)
     refine gk_sub ?hs_203 (hKL25 ((_, _, _, _, e + 1)) ?hi_203 ?hm_203)
     case hs_203 => repeat first | exact sub_nil | refine sub_cons rfl ?_
     case hi_203 => exact ⟨by (try dsimp only); omega, all_push hpk he2 hce, by (try dsimp only); simp; omega, pl_push hpl (by simp; omega)⟩
     case hm_203 => (try dsimp only); omega
    try simp only [sA] at hc3
    have hce := hc3
    refine gc_skip ?_
    refine gk_block ?_
    refine gk_then (hK28 _ _ ?_)
    refine gc_region ?_
    refine gm ?_
    refine gv (qt_add rfl rfl rfl (by omega)) ?_
    refine gas ?_
    refine g_nil ?_
    refine gk_then (gk_take 2 ?_)
    refine gk_sub ?hs_204 (hKL25 ((_, _, _, _, e + 1)) ?hi_204 ?hm_204)
    case hs_204 => repeat first | exact sub_nil | refine sub_cons rfl ?_
    case hi_204 => exact ⟨by (try dsimp only); omega, all_skip hpk he2 hce, by (try dsimp only); omega, hpl⟩
    case hm_204 => (try dsimp only); omega
   try simp only [sA] at hc2
   refine gc_exit ?_
   refine gk_then_exit ?_
   refine gk_then_exit ?_
   refine gk_block_hit ?_
   refine gk_block ?_
   refine gk_then (hK23 _ _ ?_)
   refine gc_region ?_
   refine gm ?_
   refine gv (qt_add rfl rfl rfl (by omega)) ?_
   refine gas ?_
   refine g_nil ?_
   obtain rfl : e = fr.length := by omega
   refine gk_then (gk_take 2 ?_)
   refine gk_sub ?hs_205 (hKL20 ((_, _, _, _, k + 1)) ?hi_205 ?hm_205)
   case hs_205 => repeat first | exact sub_nil | refine sub_cons rfl ?_
   case hi_205 => exact ⟨by (try dsimp only); omega, by rw [he2, ← payA_eq (by omega), ← bfs_step (by simp only [List.length_map]; omega) (by simp only [List.length_map]; omega)]; exact hb, by (try dsimp only); omega, hpl⟩
   case hm_205 => (try dsimp only); omega
  try simp only [sA] at hc1
  refine gc_exit ?_
  refine gk_then_exit ?_
  refine gk_then_exit ?_
  refine gk_block_hit ?_
  refine gk_then (hK18 _ _ ?_)
  refine gc_seq fun K206 hK206 => ?_
  refine gc_sr fun K207 hK207 => ?_
  refine gas ?_
  refine gnt (hK207 _ _ ?_)
  refine gc_block ?_
  try simp only [sL]
  refine gc_loopT ([(0, _), (1, _), (2, _), (6, _), (7, _), (8, _), (9, _), (17, _), (35, _)] : Env) (fun s : (List (Ent Edg)) × Nat => (fun (es3 : List (Ent Edg)) (i : Nat) => (([(11, .int .i64 (i : Int))] : Env), ([(0, ownEI0 lab_path (.slice a es.length c) es3)] : List (Nat × Itm)), 1 ≤ i ∧ i ≤ es.length + 1 ∧ es3.length = es.length ∧ (es3.map pay).Perm (es.map pay) ∧ (∀ y ∈ es3, y.2.2 ∈ pl ∧ y.2.2.2.length ≤ 41) ∧ SortE es3 i, es.length + 1 - i)) s.1 s.2) ((es, 1)) (by repeat first | exact sub_nil | refine sub_cons rfl ?_) rfl ⟨Nat.le_refl _, by (try dsimp only); omega, rfl, List.Perm.refl _, pl_le hpl (by omega), fun p q h1 h2 => absurd h2 (by omega)⟩ ?_
  rintro ⟨es3, i⟩ hinv KL208 hKL208
  simp only [sU, sL] at hinv hKL208 ⊢
  obtain ⟨hi1, hi2, hl3, hp3, hpl, hs3⟩ := hinv
  refine gc_seq fun K209 hK209 => ?_
  refine gc_sr fun K210 hK210 => ?_
  refine gm ?_
  refine gm ?_
  refine gv (qt_len rfl rfl (lab_ul0 lab_path) (fun w M => lenV_E0 (mem_ownE0 (n := 0) M rfl))) ?_
  refine gv (qt_lss rfl rfl rfl) ?_
  refine gnt (hK210 _ _ ?_)
  refine gc_cond rfl (fun hc4 => ?_) (fun hc4 => ?_)
  ·try simp only [sA] at hc4
   refine gc_skip ?_
   refine gk_then (hK209 _ _ ?_)
   refine gc_seq fun K211 hK211 => ?_
   refine gc_block ?_
   refine gc_sr fun K212 hK212 => ?_
   refine gm ?_
   refine gas ?_
   refine gnt (hK212 _ _ ?_)
   refine gc_block ?_
   try simp only [sL]
   refine gc_loopT ([(0, _), (1, _), (2, _), (6, _), (7, _), (8, _), (9, _), (11, _), (17, _), (35, _), (79, _)] : Env) (fun s : (List (Ent Edg)) × Nat => (fun (es4 : List (Ent Edg)) (j : Nat) => (([(12, .int .i64 (j : Int))] : Env), ([(0, ownEI0 lab_path (.slice a es.length c) es4)] : List (Nat × Itm)), j ≤ i ∧ es4.length = es.length ∧ (es4.map pay).Perm (es.map pay) ∧ (∀ y ∈ es4, y.2.2 ∈ pl ∧ y.2.2.2.length ≤ 41) ∧ SortX es4 i j, j)) s.1 s.2) ((es3, i)) (by repeat first | exact sub_nil | refine sub_cons rfl ?_) rfl ⟨Nat.le_refl _, hl3, hp3, hpl, sortX_of hs3⟩ ?_
   rintro ⟨es4, j⟩ hinv KL213 hKL213
   simp only [sU, sL] at hinv hKL213 ⊢
   obtain ⟨hj, hl4, hp4, hpl, hs4⟩ := hinv
   refine gc_seq fun K214 hK214 => ?_
   refine gc_seq fun K215 hK215 => ?_
   refine gc_draw (by kernel_rfl) ?_
   refine gdv (qt_move rfl rfl) ?_
   refine gdv (qt_gtr rfl rfl rfl) ?_
   refine gd_splitv (.free rfl) rfl rfl (qt_move rfl rfl) (fun hs18_2 => ?_) (fun hs18_2 => ?_)
   ·try simp only [sA] at hs18_2
    refine gdvh (qt_move rfl rfl) ?_
    refine gdvh (qt_move rfl rfl) ?_
    refine gdvh (qt_indexP rfl rfl rfl rfl (fun w M => lenA_E0 (mem_ownE0 (n := 0) M rfl)) (by omega) (by omega)) ?_
    refine gdvh (qt_loadPa rfl rfl rfl (fun w M => mem_ownE0 (n := 0) M rfl) (by omega) (by omega)) ?_
    refine gdvh (qt_move rfl rfl) ?_
    refine gdvh (qt_move rfl rfl) ?_
    refine gdvh (qt_sub rfl rfl rfl (by omega)) ?_
    refine gdvh (qt_indexP rfl rfl rfl rfl (fun w M => lenA_E0 (mem_ownE0 (n := 0) M rfl)) (by omega) (by omega)) ?_
    refine gdvh (qt_loadPa rfl rfl rfl (fun w M => mem_ownE0 (n := 0) M rfl) (by omega) (by omega)) ?_
    refine gd_q (.held _ _ _ rfl rfl rfl) rfl rfl (qt_call rfl func111 rfl (by decide) rfl (fun w M => specBefore_any w (_) (_) (_) (_) (_) (_) (mem_pool (n := 1) M rfl (hpl _ (atE0_mem (by omega) (by omega))).1) (mem_pool (n := 1) M rfl (hpl _ (atE0_mem (by omega) (by omega))).1) (Nat.le_trans (hpl _ (atE0_mem (by omega) (by omega))).2 (by decide)))) ?_
    refine gdv (qt_pick_t rfl rfl rfl) ?_
    refine gd_nil ?_
    refine gk_then (hK215 _ _ ?_)
    refine gc_cond rfl (fun hc5 => ?_) (fun hc5 => ?_)
    ·try simp only [sA] at hc5
     have hcs := hc5
     refine gc_skip ?_
     refine gk_then (hK214 _ _ ?_)
     refine gc_seq fun K216 hK216 => ?_
     refine gc_block ?_
     refine gc_sr fun K217 hK217 => ?_
     refine gm ?_
     refine gm ?_
     refine gv (qt_indexP rfl rfl rfl rfl (fun w M => lenA_E0 (mem_ownE0 (n := 0) M rfl)) (by omega) (by omega)) ?_
     refine gv (qt_loadPa rfl rfl rfl (fun w M => mem_ownE0 (n := 0) M rfl) (by omega) (by omega)) ?_
     refine gop fun K219 hK219 => ?_
     refine go_alloc (z := (.agg #[.int .i64 0, .int .i64 0, .slice none 0 0])) (cs := [.int .i64 0, .int .i64 0, .slice none 0 0]) rfl rfl rfl (fun w => by kernel_rfl) rfl ?_
     intro B218
     refine hK219 _ _ ?_
     refine gop fun K220 hK220 => ?_
     refine gss 2 ?_
     refine hK220 _ _ ?_
     refine gnt (hK217 _ _ ?_)
     refine gc_sr fun K221 hK221 => ?_
     refine gm ?_
     refine gm ?_
     refine gm ?_
     refine gm ?_
     refine gv (qt_sub rfl rfl rfl (by omega)) ?_
     refine gv (qt_indexP rfl rfl rfl rfl (fun w M => lenA_E0 (mem_ownE0 (n := 0) M rfl)) (by omega) (by omega)) ?_
     refine gv (qt_loadPa rfl rfl rfl (fun w M => mem_ownE0 (n := 0) M rfl) (by omega) (by omega)) ?_
     refine gv (qt_indexP rfl rfl rfl rfl (fun w M => lenA_E0 (mem_ownE0 (n := 0) M rfl)) (by omega) (by omega)) ?_
     refine gop fun K222 hK222 => ?_
     refine go_storePe (n := 0) (atE0 es4 ((j : Int) - 1)) rfl rfl rfl rfl rfl rfl (by omega) (by omega) ?_
     refine hK222 _ _ ?_
     refine gnt (hK221 _ _ ?_)
     refine gc_region ?_
     refine gm ?_
     refine gm ?_
     refine gv (qt_sub rfl rfl rfl (by omega)) ?_
     refine gv (qts underlying127 (n := 2)) ?_
     refine gv (qt_indexP rfl rfl rfl rfl (fun w M => lenA_E0 (mem_ownE0 (n := 0) M rfl)) (by omega) (by rw [List.length_set]; omega)) ?_
     refine gop fun K223 hK223 => ?_
     refine go_storePe (n := 0) (atE0 es4 (j : Int)) rfl rfl rfl rfl rfl rfl (by omega) (by rw [List.length_set]; omega) ?_
     refine hK223 _ _ ?_
     refine g_nil ?_
     refine gk_block ?_
     refine gk_then (hK216 _ _ ?_)
     refine gc_region ?_
     refine gm ?_
     refine gv (qt_sub rfl rfl rfl (by omega)) ?_
     refine gas ?_
     refine g_nil ?_
     rw [show ((j : Int) - 1) = ((j - 1 : Nat) : Int) from by omega, swapE_eq es4 j]
     refine gk_then (gk_take 2 ?_)
     refine gk_sub ?hs_224 (hKL213 ((swapE es4 j, j - 1)) ?hi_224 ?hm_224)
     case hs_224 => repeat first | exact sub_nil | refine sub_cons rfl ?_
     case hi_224 => exact ⟨by (try dsimp only); omega, by rw [swapE_len]; exact hl4, ((swapE_perm (by omega) (by omega)).map pay).trans hp4, fun y hy => hpl y (swapE_mem (by omega) (by omega) hy), sortX_swap hs4 (by omega) hj (by omega) (by rw [show ((j : Int) - 1) = ((j - 1 : Nat) : Int) from by omega] at hcs; exact hcs)⟩
     case hm_224 => (try dsimp only); omega
    try simp only [sA] at hc5
    have hcs := hc5
    refine gc_exit ?_
    refine gk_then_exit ?_
    refine gk_then_exit ?_
    refine gk_block_hit ?_
    refine gk_block ?_
    refine gk_then (hK211 _ _ ?_)
    refine gc_region ?_
    refine gm ?_
    refine gv (qt_add rfl rfl rfl (by omega)) ?_
    refine gas ?_
    refine g_nil ?_
    refine gk_then (gk_take 2 ?_)
    refine gk_sub ?hs_225 (hKL208 ((_, i + 1)) ?hi_225 ?hm_225)
    case hs_225 => repeat first | exact sub_nil | refine sub_cons rfl ?_
    case hi_225 => exact ⟨by (try dsimp only); omega, by (try dsimp only); omega, hl4, hp4, hpl, sortX_stop hs4 (by omega) hj (by rw [show ((j : Int) - 1) = ((j - 1 : Nat) : Int) from by omega] at hcs; exact hcs)⟩
    case hm_225 => (try dsimp only); omega
   try simp only [sA] at hs18_2
   refine gdsk ?_
   refine gdsk ?_
   refine gdsk ?_
   refine gdsk ?_
   refine gdsk ?_
   refine gdsk ?_
   refine gdsk ?_
   refine gdsk ?_
   refine gdsk ?_
   refine gdsk ?_
   refine gdv (qt_pick_f rfl rfl rfl) ?_
   refine gd_nil ?_
   refine gk_then (hK215 _ _ ?_)
   refine gc_cond_f rfl ?_
   refine gc_exit ?_
   refine gk_then_exit ?_
   refine gk_then_exit ?_
   refine gk_block_hit ?_
   refine gk_block ?_
   refine gk_then (hK211 _ _ ?_)
   refine gc_region ?_
   refine gm ?_
   refine gv (qt_add rfl rfl rfl (by omega)) ?_
   refine gas ?_
   refine g_nil ?_
   obtain rfl : j = 0 := by omega
   refine gk_then (gk_take 2 ?_)
   refine gk_sub ?hs_226 (hKL208 ((_, i + 1)) ?hi_226 ?hm_226)
   case hs_226 => repeat first | exact sub_nil | refine sub_cons rfl ?_
   case hi_226 => exact ⟨by (try dsimp only); omega, by (try dsimp only); omega, hl4, hp4, hpl, sortX_0 hs4⟩
   case hm_226 => (try dsimp only); omega
  try simp only [sA] at hc4
  refine gc_exit ?_
  refine gk_then_exit ?_
  refine gk_then_exit ?_
  refine gk_block_hit ?_
  refine gk_then (hK206 _ _ ?_)
  refine gc_sr fun K227 hK227 => ?_
  refine gm ?_
  refine gas ?_
  refine gnt (hK227 _ _ ?_)
  refine gc_ret ?_
  refine ret_1 rfl rfl  (fun w M => ?_)
  have hall : es.map pay = allP x fr to := by rw [← hb]; exact (bfs_stop (by rw [List.length_map]; omega)).symm
  exact ⟨_, es3, pl, rfl, (mem_take 2 M).2, hpl, ⟨by rw [← hall]; exact hp3, fun p q h1 h2 => hs3 p q h1 (by omega), by (try dsimp only); omega⟩, M.1⟩
 try simp only [sA] at hs7_4
 refine gsk ?_
 refine gsk ?_
 refine gsk ?_
 refine gv (qt_pick_f rfl rfl rfl) ?_
 refine gnt (hK22 _ _ ?_)
 refine gc_cond_f rfl ?_
 refine gc_exit ?_
 refine gk_then_exit ?_
 refine gk_then_exit ?_
 refine gk_block_hit ?_
 refine gk_then (hK18 _ _ ?_)
 refine gc_seq fun K228 hK228 => ?_
 refine gc_sr fun K229 hK229 => ?_
 refine gas ?_
 refine gnt (hK229 _ _ ?_)
 refine gc_block ?_
 try simp only [sL]
 refine gc_loopT ([(0, _), (1, _), (2, _), (6, _), (7, _), (8, _), (9, _), (17, _), (35, _)] : Env) (fun s : (List (Ent Edg)) × Nat => (fun (es3 : List (Ent Edg)) (i : Nat) => (([(11, .int .i64 (i : Int))] : Env), ([(0, ownEI0 lab_path (.slice a es.length c) es3)] : List (Nat × Itm)), 1 ≤ i ∧ i ≤ es.length + 1 ∧ es3.length = es.length ∧ (es3.map pay).Perm (es.map pay) ∧ (∀ y ∈ es3, y.2.2 ∈ pl ∧ y.2.2.2.length ≤ 41) ∧ SortE es3 i, es.length + 1 - i)) s.1 s.2) ((es, 1)) (by repeat first | exact sub_nil | refine sub_cons rfl ?_) rfl ⟨Nat.le_refl _, by (try dsimp only); omega, rfl, List.Perm.refl _, pl_le hpl (by omega), fun p q h1 h2 => absurd h2 (by omega)⟩ ?_
 rintro ⟨es3, i⟩ hinv KL230 hKL230
 simp only [sU, sL] at hinv hKL230 ⊢
 obtain ⟨hi1, hi2, hl3, hp3, hpl, hs3⟩ := hinv
 refine gc_seq fun K231 hK231 => ?_
 refine gc_sr fun K232 hK232 => ?_
 refine gm ?_
 refine gm ?_
 refine gv (qt_len rfl rfl (lab_ul0 lab_path) (fun w M => lenV_E0 (mem_ownE0 (n := 0) M rfl))) ?_
 refine gv (qt_lss rfl rfl rfl) ?_
 refine gnt (hK232 _ _ ?_)
 refine gc_cond rfl (fun hc6 => ?_) (fun hc6 => ?_)
 ·try simp only [sA] at hc6
  refine gc_skip ?_
  refine gk_then (hK231 _ _ ?_)
  refine gc_seq fun K233 hK233 => ?_
  refine gc_block ?_
  refine gc_sr fun K234 hK234 => ?_
  refine gm ?_
  refine gas ?_
  refine gnt (hK234 _ _ ?_)
  refine gc_block ?_
  try simp only [sL]
  refine gc_loopT ([(0, _), (1, _), (2, _), (6, _), (7, _), (8, _), (9, _), (11, _), (17, _), (35, _), (79, _)] : Env) (fun s : (List (Ent Edg)) × Nat => (fun (es4 : List (Ent Edg)) (j : Nat) => (([(12, .int .i64 (j : Int))] : Env), ([(0, ownEI0 lab_path (.slice a es.length c) es4)] : List (Nat × Itm)), j ≤ i ∧ es4.length = es.length ∧ (es4.map pay).Perm (es.map pay) ∧ (∀ y ∈ es4, y.2.2 ∈ pl ∧ y.2.2.2.length ≤ 41) ∧ SortX es4 i j, j)) s.1 s.2) ((es3, i)) (by repeat first | exact sub_nil | refine sub_cons rfl ?_) rfl ⟨Nat.le_refl _, hl3, hp3, hpl, sortX_of hs3⟩ ?_
  rintro ⟨es4, j⟩ hinv KL235 hKL235
  simp only [sU, sL] at hinv hKL235 ⊢
  obtain ⟨hj, hl4, hp4, hpl, hs4⟩ := hinv
  refine gc_seq fun K236 hK236 => ?_
  refine gc_seq fun K237 hK237 => ?_
  refine gc_draw (by kernel_rfl) ?_
  refine gdv (qt_move rfl rfl) ?_
  refine gdv (qt_gtr rfl rfl rfl) ?_
  refine gd_splitv (.free rfl) rfl rfl (qt_move rfl rfl) (fun hs18_2 => ?_) (fun hs18_2 => ?_)
  ·try simp only [sA] at hs18_2
   refine gdvh (qt_move rfl rfl) ?_
   refine gdvh (qt_move rfl rfl) ?_
   refine gdvh (qt_indexP rfl rfl rfl rfl (fun w M => lenA_E0 (mem_ownE0 (n := 0) M rfl)) (by omega) (by omega)) ?_
   refine gdvh (qt_loadPa rfl rfl rfl (fun w M => mem_ownE0 (n := 0) M rfl) (by omega) (by omega)) ?_
   refine gdvh (qt_move rfl rfl) ?_
   refine gdvh (qt_move rfl rfl) ?_
   refine gdvh (qt_sub rfl rfl rfl (by omega)) ?_
   refine gdvh (qt_indexP rfl rfl rfl rfl (fun w M => lenA_E0 (mem_ownE0 (n := 0) M rfl)) (by omega) (by omega)) ?_
   refine gdvh (qt_loadPa rfl rfl rfl (fun w M => mem_ownE0 (n := 0) M rfl) (by omega) (by omega)) ?_
   refine gd_q (.held _ _ _ rfl rfl rfl) rfl rfl (qt_call rfl func111 rfl (by decide) rfl (fun w M => specBefore_any w (_) (_) (_) (_) (_) (_) (mem_pool (n := 1) M rfl (hpl _ (atE0_mem (by omega) (by omega))).1) (mem_pool (n := 1) M rfl (hpl _ (atE0_mem (by omega) (by omega))).1) (Nat.le_trans (hpl _ (atE0_mem (by omega) (by omega))).2 (by decide)))) ?_
   refine gdv (qt_pick_t rfl rfl rfl) ?_
   refine gd_nil ?_
   refine gk_then (hK237 _ _ ?_)
   refine gc_cond rfl (fun hc7 => ?_) (fun hc7 => ?_)
   ·try simp only [sA] at hc7
    have hcs := hc7
    refine gc_skip ?_
    refine gk_then (hK236 _ _ ?_)
    refine gc_seq fun K238 hK238 => ?_
    refine gc_block ?_
    refine gc_sr fun K239 hK239 => ?_
    refine gm ?_
    refine gm ?_
    refine gv (qt_indexP rfl rfl rfl rfl (fun w M => lenA_E0 (mem_ownE0 (n := 0) M rfl)) (by omega) (by omega)) ?_
    refine gv (qt_loadPa rfl rfl rfl (fun w M => mem_ownE0 (n := 0) M rfl) (by omega) (by omega)) ?_
    refine gop fun K241 hK241 => ?_
    refine go_alloc (z := (.agg #[.int .i64 0, .int .i64 0, .slice none 0 0])) (cs := [.int .i64 0, .int .i64 0, .slice none 0 0]) rfl rfl rfl (fun w => by kernel_rfl) rfl ?_
    intro B240
    refine hK241 _ _ ?_
    refine gop fun K242 hK242 => ?_
    refine gss 2 ?_
    refine hK242 _ _ ?_
    refine gnt (hK239 _ _ ?_)
    refine gc_sr fun K243 hK243 => ?_
    refine gm ?_
    refine gm ?_
    refine gm ?_
    refine gm ?_
    refine gv (qt_sub rfl rfl rfl (by omega)) ?_
    refine gv (qt_indexP rfl rfl rfl rfl (fun w M => lenA_E0 (mem_ownE0 (n := 0) M rfl)) (by omega) (by omega)) ?_
    refine gv (qt_loadPa rfl rfl rfl (fun w M => mem_ownE0 (n := 0) M rfl) (by omega) (by omega)) ?_
    refine gv (qt_indexP rfl rfl rfl rfl (fun w M => lenA_E0 (mem_ownE0 (n := 0) M rfl)) (by omega) (by omega)) ?_
    refine gop fun K244 hK244 => ?_
    refine go_storePe (n := 0) (atE0 es4 ((j : Int) - 1)) rfl rfl rfl rfl rfl rfl (by omega) (by omega) ?_
    refine hK244 _ _ ?_
    refine gnt (hK243 _ _ ?_)
    refine gc_region ?_
    refine gm ?_
    refine gm ?_
    refine gv (qt_sub rfl rfl rfl (by omega)) ?_
    refine gv (qts underlying127 (n := 2)) ?_
    refine gv (qt_indexP rfl rfl rfl rfl (fun w M => lenA_E0 (mem_ownE0 (n := 0) M rfl)) (by omega) (by rw [List.length_set]; omega)) ?_
    refine gop fun K245 hK245 => ?_
    refine go_storePe (n := 0) (atE0 es4 (j : Int)) rfl rfl rfl rfl rfl rfl (by omega) (by rw [List.length_set]; omega) ?_
    refine hK245 _ _ ?_
    refine g_nil ?_
    refine gk_block ?_
    refine gk_then (hK238 _ _ ?_)
    refine gc_region ?_
    refine gm ?_
    refine gv (qt_sub rfl rfl rfl (by omega)) ?_
    refine gas ?_
    refine g_nil ?_
    rw [show ((j : Int) - 1) = ((j - 1 : Nat) : Int) from by omega, swapE_eq es4 j]
    refine gk_then (gk_take 2 ?_)
    refine gk_sub ?hs_246 (hKL235 ((swapE es4 j, j - 1)) ?hi_246 ?hm_246)
    case hs_246 => repeat first | exact sub_nil | refine sub_cons rfl ?_
    case hi_246 => exact ⟨by (try dsimp only); omega, by rw [swapE_len]; exact hl4, ((swapE_perm (by omega) (by omega)).map pay).trans hp4, fun y hy => hpl y (swapE_mem (by omega) (by omega) hy), sortX_swap hs4 (by omega) hj (by omega) (by rw [show ((j : Int) - 1) = ((j - 1 : Nat) : Int) from by omega] at hcs; exact hcs)⟩
    case hm_246 => (try dsimp only); omega
   try simp only [sA] at hc7
   have hcs := hc7
   refine gc_exit ?_
   refine gk_then_exit ?_
   refine gk_then_exit ?_
   refine gk_block_hit ?_
   refine gk_block ?_
   refine gk_then (hK233 _ _ ?_)
   refine gc_region ?_
   refine gm ?_
   refine gv (qt_add rfl rfl rfl (by omega)) ?_
   refine gas ?_
   refine g_nil ?_
   refine gk_then (gk_take 2 ?_)
   refine gk_sub ?hs_247 (hKL230 ((_, i + 1)) ?hi_247 ?hm_247)
   case hs_247 => repeat first | exact sub_nil | refine sub_cons rfl ?_
   case hi_247 => exact ⟨by (try dsimp only); omega, by (try dsimp only); omega, hl4, hp4, hpl, sortX_stop hs4 (by omega) hj (by rw [show ((j : Int) - 1) = ((j - 1 : Nat) : Int) from by omega] at hcs; exact hcs)⟩
   case hm_247 => (try dsimp only); omega
  try simp only [sA] at hs18_2
  refine gdsk ?_
  refine gdsk ?_
  refine gdsk ?_
  refine gdsk ?_
  refine gdsk ?_
  refine gdsk ?_
  refine gdsk ?_
  refine gdsk ?_
  refine gdsk ?_
  refine gdsk ?_
  refine gdv (qt_pick_f rfl rfl rfl) ?_
  refine gd_nil ?_
  refine gk_then (hK237 _ _ ?_)
  refine gc_cond_f rfl ?_
  refine gc_exit ?_
  refine gk_then_exit ?_
  refine gk_then_exit ?_
  refine gk_block_hit ?_
  refine gk_block ?_
  refine gk_then (hK233 _ _ ?_)
  refine gc_region ?_
  refine gm ?_
  refine gv (qt_add rfl rfl rfl (by omega)) ?_
  refine gas ?_
  refine g_nil ?_
  obtain rfl : j = 0 := by omega
  refine gk_then (gk_take 2 ?_)
  refine gk_sub ?hs_248 (hKL230 ((_, i + 1)) ?hi_248 ?hm_248)
  case hs_248 => repeat first | exact sub_nil | refine sub_cons rfl ?_
  case hi_248 => exact ⟨by (try dsimp only); omega, by (try dsimp only); omega, hl4, hp4, hpl, sortX_0 hs4⟩
  case hm_248 => (try dsimp only); omega
 try simp only [sA] at hc6
 refine gc_exit ?_
 refine gk_then_exit ?_
 refine gk_then_exit ?_
 refine gk_block_hit ?_
 refine gk_then (hK228 _ _ ?_)
 refine gc_sr fun K249 hK249 => ?_
 refine gm ?_
 refine gas ?_
 refine gnt (hK249 _ _ ?_)
 refine gc_ret ?_
 refine ret_1 rfl rfl  (fun w M => ?_)
 have hall : es.map pay = allP x fr to := by rw [← hb]; exact (bfs_stop (by rw [List.length_map]; omega)).symm
 exact ⟨_, es3, pl, rfl, (mem_take 2 M).2, hpl, ⟨by rw [← hall]; exact hp3, fun p q h1 h2 => hs3 p q h1 (by omega), by (try dsimp only); omega⟩, M.1⟩
end Go.Proofs.Ytbiplocgenppoaa
