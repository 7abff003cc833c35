
/- The model's list of all paths of a graph: breadth first, then in order. -/
import Derived.Test.YtgkfampgofjkfaaShort
import Derived.Test.YtgkfampgofjkfaaPathL
import Derived.Test.YtgkfampgofjkfaaOwnL
import Derived.Test.YtgkfampgofjkfaaClo
set_option linter.unusedSimpArgs false
set_option linter.unusedVariables false
set_option linter.unusedSectionVars false
namespace Go.Proofs.Ytgkfampgofjkfaa
open Go.RowKit


/-! ### The order of lists and of paths -/
def lessL : List Int → List Int → Bool
 | [], [] => false
 | [], _ :: _ => true
 | _ :: _, [] => false
 | a :: p, b :: q => if a = b then lessL p q else decide (a < b)
theorem lessL_drop {xs ys : List Int} {i : Nat} (hx : i < xs.length) (hy : i < ys.length) : lessL (xs.drop i) (ys.drop i) = if at0 xs (i : Int) = at0 ys (i : Int) then lessL (xs.drop (i + 1)) (ys.drop (i + 1)) else decide (at0 xs (i : Int) < at0 ys (i : Int)) := by
 rw [List.drop_eq_getElem_cons hx, List.drop_eq_getElem_cons hy, at0_nat, at0_nat, List.getD_eq_getElem?_getD, List.getD_eq_getElem?_getD, List.getElem?_eq_getElem hx, List.getElem?_eq_getElem hy]
 rfl
theorem lessL_end {xs ys : List Int} {i : Nat} (hx : i ≤ xs.length) (hy : i ≤ ys.length) (h : xs.length ≤ i ∨ ys.length ≤ i) : lessL (xs.drop i) (ys.drop i) = decide (xs.length < ys.length) := by
 by_cases h1 : xs.length ≤ i
 ·rw [List.drop_eq_nil_of_le h1]
  by_cases h2 : ys.length ≤ i
  ·rw [List.drop_eq_nil_of_le h2]
   have : ¬ xs.length < ys.length := by omega
   simp [lessL, this]
  ·rw [List.drop_eq_getElem_cons (l := ys) (by omega)]
   have : xs.length < ys.length := by omega
   simp [lessL, this]
 ·rw [List.drop_eq_getElem_cons (l := xs) (by omega), List.drop_eq_nil_of_le («as» := ys) (by omega)]
  have : ¬ xs.length < ys.length := by omega
  simp [lessL, this]
/-- What a path says: its ends and its edges. -/
abbrev Pay := Int × Int × List Int
def pay (e : Ent Edg) : Pay := (e.1, e.2.1, e.2.2.2)
def befP (a b : Pay) : Bool := if a.1 ≠ b.1 then decide (a.1 < b.1) else if a.2.1 ≠ b.2.1 then decide (a.2.1 < b.2.1) else lessL a.2.2 b.2.2

set_option maxHeartbeats 1000000 in
set_option maxRecDepth 100000 in
theorem specLess_any (w : World) (v1 v2 : Value) (xs ys : List Int) (h1 : Rd w v1 xs) (h2 : Rd w v2 ys) (hl : xs.length ≤ 1048576) :
  Calls Try.prog 75 #[v1, v2] w (RetB w (lessL xs ys)) := by
 obtain ⟨v1a, v1c, rfl⟩ := rd_form h1
 obtain ⟨v2a, v2c, rfl⟩ := rd_form h2
 go_enter Try.func75, Try.ntmps75
 refine gc_enter (N := 41) rfl (look_cons (k := 0) rfl (look_cons (k := 1) rfl (look_nil _))) ?_
 refine gc_sr fun K1 hK1 => ?_
 refine gas ?_
 refine gnt (hK1 _ _ ?_)
 refine gc_seq fun K2 hK2 => ?_
 refine gc_sr fun K3 hK3 => ?_
 refine gas ?_
 refine gnt (hK3 _ _ ?_)
 refine gc_block ?_
 try simp only [sL]
 refine gc_loopT ([(0, _), (1, _)] : Env) (fun s : Nat => (fun (i : Nat) => (([(5, .int .i64 (i : Int))] : Env), ([] : List (Nat × Itm)), i ≤ xs.length ∧ i ≤ ys.length ∧ lessL xs ys = lessL (xs.drop i) (ys.drop i), xs.length - i)) s) (0) (by repeat first | exact sub_nil | refine sub_cons rfl ?_) rfl ⟨Nat.zero_le _, Nat.zero_le _, rfl⟩ ?_
 rintro i hinv KL4 hKL4
 simp only [sU, sL] at hinv hKL4 ⊢
 obtain ⟨hi1, hi2, hi3⟩ := hinv
 refine gc_seq fun K5 hK5 => ?_
 refine gc_sr fun K6 hK6 => ?_
 refine gm ?_
 refine gm ?_
 refine gv (qln (fun w M => lenV_rd h1)) ?_
 refine gv (qt_lss rfl rfl rfl) ?_
 refine g_splitv (.free rfl) rfl rfl (qt_move rfl rfl) (fun hs2_4 => ?_) (fun hs2_4 => ?_)
 ·try simp only [sA] at hs2_4
  refine gvh (qt_move rfl rfl) ?_
  refine gvh (qt_move rfl rfl) ?_
  refine gvh (qln (fun w M => lenV_rd h2)) ?_
  refine gvh (qt_lss rfl rfl rfl) ?_
  refine gv (qt_pick_t rfl rfl rfl) ?_
  refine gnt (hK6 _ _ ?_)
  refine gc_cond rfl (fun hc0 => ?_) (fun hc0 => ?_)
  ·try simp only [sA] at hc0
   refine gc_skip ?_
   refine gk_then (hK5 _ _ ?_)
   refine gc_seq fun K7 hK7 => ?_
   refine gc_block ?_
   refine gc_seq fun K8 hK8 => ?_
   refine gc_draw (by kernel_rfl) ?_
   refine gdv (qt_move rfl rfl) ?_
   refine gdv (qt_move rfl rfl) ?_
   refine gdv (qti (fun w M => lenA_rd h1)) ?_
   refine gdv (qtd (fun w M => mem_rd M h1)) ?_
   refine gdv (qt_move rfl rfl) ?_
   refine gdv (qt_move rfl rfl) ?_
   refine gdv (qti (fun w M => lenA_rd h2)) ?_
   refine gdv (qtd (fun w M => mem_rd M h2)) ?_
   refine gdv (qt_neq rfl rfl rfl) ?_
   refine gd_nil ?_
   refine gk_then (hK8 _ _ ?_)
   refine gc_cond rfl (fun hc1 => ?_) (fun hc1 => ?_)
   ·try simp only [sA] at hc1
    refine gc_seq fun K9 hK9 => ?_
    refine gc_draw (by kernel_rfl) ?_
    refine gdv (qt_move rfl rfl) ?_
    refine gdv (qt_move rfl rfl) ?_
    refine gdv (qti (fun w M => lenA_rd h1)) ?_
    refine gdv (qtd (fun w M => mem_rd M h1)) ?_
    refine gdv (qt_move rfl rfl) ?_
    refine gdv (qt_move rfl rfl) ?_
    refine gdv (qti (fun w M => lenA_rd h2)) ?_
    refine gdv (qtd (fun w M => mem_rd M h2)) ?_
    refine gdv (qt_lss rfl rfl rfl) ?_
    refine gdv (qt_assign rfl rfl) ?_
    refine gd_nil ?_
    refine gk_then (hK9 _ _ ?_)
    refine gc_ret ?_
    refine gk_block_ret ?_
    refine gk_then_ret ?_
    refine gk_then_ret ?_
    refine gk_block_ret ?_
    refine gk_then_ret ?_
    refine ret_1 rfl rfl  (fun w M => ?_)
    rw [hi3, lessL_drop (by omega) (by omega), if_neg (by omega)]
    exact ⟨rfl, M.1⟩
   ·try simp only [sA] at hc1
    refine gc_skip ?_
    refine gk_block ?_
    refine gk_then (hK7 _ _ ?_)
    refine gc_region ?_
    refine gm ?_
    refine gv (qt_add rfl rfl rfl (by omega)) ?_
    refine gas ?_
    refine g_nil ?_
    have hd := lessL_drop (xs := xs) (ys := ys) (i := i) (by omega) (by omega)
    rw [if_pos (by omega)] at hd
    refine gk_then (gk_take 0 ?_)
    refine gk_sub ?hs_10 (hKL4 (i + 1) ?hi_10 ?hm_10)
    case hs_10 => repeat first | exact sub_nil | refine sub_cons rfl ?_
    case hi_10 => exact ⟨by omega, by omega, hi3.trans hd⟩
    case hm_10 => omega
  ·try simp only [sA] at hc0
   refine gc_exit ?_
   refine gk_then_exit ?_
   refine gk_then_exit ?_
   refine gk_block_hit ?_
   refine gk_then (hK2 _ _ ?_)
   refine gc_sr fun K11 hK11 => ?_
   refine gm ?_
   refine gv (qln (fun w M => lenV_rd h1)) ?_
   refine gm ?_
   refine gv (qln (fun w M => lenV_rd h2)) ?_
   refine gv (qt_lss rfl rfl rfl) ?_
   refine gas ?_
   refine gnt (hK11 _ _ ?_)
   refine gc_ret ?_
   refine ret_1 rfl rfl  (fun w M => ?_)
   rw [hi3, lessL_end hi1 hi2 (by omega)]
   exact ⟨by simp, M.1⟩
 ·try simp only [sA] at hs2_4
  refine gsk ?_
  refine gsk ?_
  refine gsk ?_
  refine gsk ?_
  refine gv (qt_pick_f rfl rfl rfl) ?_
  refine gnt (hK6 _ _ ?_)
  refine gc_cond_f rfl ?_
  refine gc_exit ?_
  refine gk_then_exit ?_
  refine gk_then_exit ?_
  refine gk_block_hit ?_
  refine gk_then (hK2 _ _ ?_)
  refine gc_sr fun K12 hK12 => ?_
  refine gm ?_
  refine gv (qln (fun w M => lenV_rd h1)) ?_
  refine gm ?_
  refine gv (qln (fun w M => lenV_rd h2)) ?_
  refine gv (qt_lss rfl rfl rfl) ?_
  refine gas ?_
  refine gnt (hK12 _ _ ?_)
  refine gc_ret ?_
  refine ret_1 rfl rfl  (fun w M => ?_)
  rw [hi3, lessL_end hi1 hi2 (by omega)]
  exact ⟨by simp, M.1⟩

/-! ### All paths, breadth first -/
def startP (n : Nat) : List Pay := (List.range n).map fun x : Nat => ((x : Int), (x : Int), [])
theorem startP_succ (n : Nat) : startP (n + 1) = startP n ++ [((n : Int), (n : Int), [])] := by simp [startP, List.range_succ]
def extP (fr to : List Int) (p : Pay) (m : Nat) : List Pay := ((List.range m).filter fun e : Nat => decide (at0 fr (e : Int) = p.2.1)).map fun e : Nat => (p.1, at0 to (e : Int), p.2.2 ++ [(e : Int)])
theorem extP_yes {fr to : List Int} {p : Pay} {m : Nat} (h : at0 fr (m : Int) = p.2.1) : extP fr to p (m + 1) = extP fr to p m ++ [(p.1, at0 to (m : Int), p.2.2 ++ [(m : Int)])] := by simp [extP, List.range_succ, List.filter_append, h]
theorem extP_no {fr to : List Int} {p : Pay} {m : Nat} (h : at0 fr (m : Int) ≠ p.2.1) : extP fr to p (m + 1) = extP fr to p m := by simp [extP, List.range_succ, List.filter_append, h]
def bfsP (fr to : List Int) : Nat → Nat → List Pay → List Pay
 | 0, _, L => L
 | f + 1, k, L => if k < L.length ∧ L.length ≤ 40 then bfsP fr to f (k + 1) (L ++ extP fr to (L.getD k (0, 0, [])) fr.length) else L
def allP (n : Nat) (fr to : List Int) : List Pay := bfsP fr to 41 0 (startP n)
theorem bfs_stop {fr to : List Int} {f k : Nat} {L : List Pay} (h : ¬(k < L.length ∧ L.length ≤ 40)) : bfsP fr to f k L = L := by
 cases f with
 | zero => rfl
 | succ f => rw [bfsP, if_neg h]
theorem bfs_step {fr to : List Int} {k : Nat} {L : List Pay} (h1 : k < L.length) (h2 : L.length ≤ 40) : bfsP fr to (41 - k) k L = bfsP fr to (41 - (k + 1)) (k + 1) (L ++ extP fr to (L.getD k (0, 0, [])) fr.length) := by
 rw [show 41 - k = (41 - (k + 1)) + 1 from by omega, bfsP, if_pos ⟨h1, h2⟩]
def payA (es : List (Ent Edg)) (k : Nat) : Pay := pay (atE0 es (k : Int))
theorem payA_eq {es : List (Ent Edg)} {k : Nat} (h : k < es.length) : (es.map pay).getD k (0, 0, []) = payA es k := by
 have he : atE0 es (k : Int) = es[k] := by simp [atE0, List.getD_eq_getElem?_getD, List.getElem?_eq_getElem h]
 rw [payA, he, List.getD_eq_getElem?_getD, List.getElem?_map, List.getElem?_eq_getElem h]; rfl
theorem payA_pre {es es2 : List (Ent Edg)} {L : List Pay} {k : Nat} (he : es2.map pay = es.map pay ++ L) (h : k < es.length) : k < es2.length ∧ payA es2 k = payA es k := by
 have hl := congrArg List.length he
 simp only [List.length_map, List.length_append] at hl
 refine ⟨by omega, ?_⟩
 rw [← payA_eq (by omega), ← payA_eq h, he, List.getD_eq_getElem?_getD, List.getElem?_append_left (by simpa using h), ← List.getD_eq_getElem?_getD]
theorem all_push {fr to : List Int} {es es2 : List (Ent Edg)} {k e : Nat} {h : Hd} (hpk : payA es2 k = payA es k) (he : es2.map pay = es.map pay ++ extP fr to (payA es k) e) (hc : at0 fr (e : Int) = (atE0 es2 (k : Int)).2.1) :
  (es2 ++ [((atE0 es2 (k : Int)).1, at0 to (e : Int), (h, (atE0 es2 (k : Int)).2.2.2 ++ [(e : Int)]))]).map pay = es.map pay ++ extP fr to (payA es k) (e + 1) := by
 rw [extP_yes (by rw [← hpk]; exact hc), List.map_append, he, ← hpk, List.append_assoc]; rfl
theorem all_skip {fr to : List Int} {es es2 : List (Ent Edg)} {k e : Nat} (hpk : payA es2 k = payA es k) (he : es2.map pay = es.map pay ++ extP fr to (payA es k) e) (hc : at0 fr (e : Int) ≠ (atE0 es2 (k : Int)).2.1) :
  es2.map pay = es.map pay ++ extP fr to (payA es k) (e + 1) := by rw [extP_no (by rw [← hpk]; exact hc), he]
theorem pl_push {es : List (Ent Edg)} {pl : List Edg} {m : Nat} {en : Ent Edg} (h : ∀ x ∈ es, x.2.2 ∈ pl ∧ x.2.2.2.length ≤ m) (hl : en.2.2.2.length ≤ m) : ∀ x ∈ es ++ [en], x.2.2 ∈ pl ++ [en.2.2] ∧ x.2.2.2.length ≤ m := by
 intro x hx
 rcases List.mem_append.1 hx with hx | hx
 ·exact ⟨List.mem_append.2 (.inl (h x hx).1), (h x hx).2⟩
 ·obtain rfl := List.mem_singleton.1 hx
  exact ⟨List.mem_append.2 (.inr (List.mem_singleton.2 rfl)), hl⟩
theorem pl_le {es : List (Ent Edg)} {pl : List Edg} {m m' : Nat} (h : ∀ x ∈ es, x.2.2 ∈ pl ∧ x.2.2.2.length ≤ m) (hm : m ≤ m') : ∀ x ∈ es, x.2.2 ∈ pl ∧ x.2.2.2.length ≤ m' := fun x hx => ⟨(h x hx).1, Nat.le_trans (h x hx).2 hm⟩
/-! ### Put in order by swaps -/
def swapE (es : List (Ent Edg)) (j : Nat) : List (Ent Edg) := (es.set j (atE0 es ((j - 1 : Nat) : Int))).set (j - 1) (atE0 es (j : Int))
theorem swapE_eq (es : List (Ent Edg)) (j : Nat) : (es.set (j : Int).toNat (atE0 es ((j - 1 : Nat) : Int))).set ((j - 1 : Nat) : Int).toNat (atE0 es (j : Int)) = swapE es j := by
 rw [swapE, Int.toNat_natCast, Int.toNat_natCast]
theorem swapE_len (es : List (Ent Edg)) (j : Nat) : (swapE es j).length = es.length := by simp [swapE]
theorem atE0_get {es : List (Ent Edg)} {k : Nat} (h : k < es.length) : atE0 es (k : Int) = es[k] := by simp [atE0, List.getD_eq_getElem?_getD, List.getElem?_eq_getElem h]
theorem set2_at {α : Type} (es : List α) (A B : α) {j k : Nat} (h0 : 0 < j) (hk : k < es.length) (hk' : k < ((es.set j A).set (j - 1) B).length) : ((es.set j A).set (j - 1) B)[k] = if k = j then A else if k = j - 1 then B else es[k] := by
 rw [List.getElem_set, List.getElem_set]
 by_cases h1 : k = j
 ·subst h1
  rw [if_neg (by omega), if_pos rfl, if_pos rfl]
 ·by_cases h2 : k = j - 1
  ·rw [if_pos h2.symm, if_neg h1, if_pos h2]
  ·rw [if_neg (fun e => h2 e.symm), if_neg (fun e => h1 e.symm), if_neg h1, if_neg h2]
theorem swapE_at {es : List (Ent Edg)} {j k : Nat} (h0 : 0 < j) (hk : k < es.length) : atE0 (swapE es j) (k : Int) = if k = j then atE0 es ((j - 1 : Nat) : Int) else if k = j - 1 then atE0 es (j : Int) else atE0 es (k : Int) := by
 have hl : k < (swapE es j).length := by rw [swapE_len]; exact hk
 rw [atE0_get hl, atE0_get hk]
 exact set2_at es _ _ h0 hk hl
theorem swapE_mem {es : List (Ent Edg)} {j : Nat} (h0 : 0 < j) (hj : j < es.length) {x : Ent Edg} (hx : x ∈ swapE es j) : x ∈ es := by
 obtain ⟨k, hk, rfl⟩ := List.getElem_of_mem hx
 have hk2 : k < es.length := by rwa [swapE_len] at hk
 rw [← atE0_get hk, swapE_at h0 hk2]
 split
 ·exact atE0_mem (by omega) (by omega)
 ·split
  ·exact atE0_mem (by omega) (by omega)
  ·exact atE0_mem (by omega) (by omega)


theorem swapE_perm {es : List (Ent Edg)} {j : Nat} (h0 : 0 < j) (hj : j < es.length) : (swapE es j).Perm es := by
 have e1 : atE0 es ((j - 1 : Nat) : Int) = es[j - 1] := atE0_get (by omega)
 rw [swapE, e1, atE0_get hj]
 exact List.set_set_perm (by omega) (by omega)
theorem lessL_asymm : ∀ {a b : List Int}, lessL a b = true → lessL b a = false
 | [], [], h => by simp [lessL] at h
 | [], _ :: _, _ => rfl
 | _ :: _, [], h => by simp [lessL] at h
 | x :: p, y :: q, h => by
  simp only [lessL] at h ⊢
  by_cases hxy : x = y
  ·subst hxy
   rw [if_pos rfl] at h ⊢
   exact lessL_asymm h
  ·rw [if_neg hxy] at h
   rw [if_neg (fun e => hxy e.symm)]
   have := of_decide_eq_true h
   exact decide_eq_false (by omega)
theorem lessL_tr : ∀ {a b c : List Int}, lessL b a = false → lessL c b = false → lessL c a = false
 | [], [], [], _, _ => rfl
 | [], [], _ :: _, _, _ => rfl
 | [], _ :: _, [], _, h => by simp [lessL] at h
 | [], _ :: _, _ :: _, _, _ => rfl
 | _ :: _, [], c, h, _ => by simp [lessL] at h
 | _ :: _, _ :: _, [], _, h => by simp [lessL] at h
 | x :: p, y :: q, z :: r, h1, h2 => by
  simp only [lessL] at h1 h2 ⊢
  by_cases e1 : y = x
  ·subst e1
   rw [if_pos rfl] at h1
   by_cases e2 : z = y
   ·subst e2
    rw [if_pos rfl] at h2 ⊢
    exact lessL_tr h1 h2
   ·rw [if_neg e2] at h2 ⊢
    exact h2
  ·rw [if_neg e1] at h1
   have g1 := of_decide_eq_false h1
   by_cases e2 : z = y
   ·subst e2
    rw [if_neg e1]
    exact h1
   ·rw [if_neg e2] at h2
    have g2 := of_decide_eq_false h2
    rw [if_neg (by omega)]
    exact decide_eq_false (by omega)
theorem befP_asymm {a b : Pay} (h : befP a b = true) : befP b a = false := by
 unfold befP at *
 by_cases h1 : a.1 = b.1
 ·by_cases h2 : a.2.1 = b.2.1
  ·rw [if_neg (by simpa using h1), if_neg (by simpa using h2)] at h
   rw [if_neg (by simpa using h1.symm), if_neg (by simpa using h2.symm)]
   exact lessL_asymm h
  ·rw [if_neg (by simpa using h1), if_pos h2] at h
   rw [if_neg (by simpa using h1.symm), if_pos (fun e => h2 e.symm)]
   have := of_decide_eq_true h
   exact decide_eq_false (by omega)
 ·rw [if_pos h1] at h
  rw [if_pos (fun e => h1 e.symm)]
  have := of_decide_eq_true h
  exact decide_eq_false (by omega)
theorem befP_tr {a b c : Pay} (h1 : befP b a = false) (h2 : befP c b = false) : befP c a = false := by
 unfold befP at *
 by_cases e1 : b.1 = a.1
 ·rw [if_neg (by simpa using e1)] at h1
  by_cases e2 : c.1 = b.1
  ·rw [if_neg (by simpa using e2)] at h2
   rw [if_neg (by simpa using e2.trans e1)]
   by_cases f1 : b.2.1 = a.2.1
   ·rw [if_neg (by simpa using f1)] at h1
    by_cases f2 : c.2.1 = b.2.1
    ·rw [if_neg (by simpa using f2)] at h2
     rw [if_neg (by simpa using f2.trans f1)]
     exact lessL_tr h1 h2
    ·rw [if_pos f2] at h2
     rw [if_pos (by omega), ← f1]; exact h2
   ·rw [if_pos f1] at h1
    have g1 := of_decide_eq_false h1
    by_cases f2 : c.2.1 = b.2.1
    ·rw [if_pos (by omega), f2]; exact h1
    ·rw [if_pos f2] at h2
     have g2 := of_decide_eq_false h2
     rw [if_pos (by omega)]
     exact decide_eq_false (by omega)
  ·rw [if_pos e2] at h2
   rw [if_pos (by omega), ← e1]; exact h2
 ·rw [if_pos e1] at h1
  have g1 := of_decide_eq_false h1
  by_cases e2 : c.1 = b.1
  ·rw [if_pos (by omega), e2]; exact h1
  ·rw [if_pos e2] at h2
   have g2 := of_decide_eq_false h2
   rw [if_pos (by omega)]
   exact decide_eq_false (by omega)
/-- The first m are in order. -/
def SortE (es : List (Ent Edg)) (m : Nat) : Prop := ∀ p q : Nat, p < q → q < m → befP (payA es q) (payA es p) = false
/-- The first i + 1 are in order but for the one at j, which has those behind it in order. -/
def SortX (es : List (Ent Edg)) (i j : Nat) : Prop := ∀ p q : Nat, p < q → q ≤ i → q ≠ j → befP (payA es q) (payA es p) = false
theorem sortX_of {es : List (Ent Edg)} {i : Nat} (h : SortE es i) : SortX es i i := fun p q h1 h2 h3 => h p q h1 (by omega)
theorem sortX_0 {es : List (Ent Edg)} {i : Nat} (h : SortX es i 0) : SortE es (i + 1) := fun p q h1 h2 => h p q h1 (by omega) (by omega)
theorem sortX_stop {es : List (Ent Edg)} {i j : Nat} (h : SortX es i j) (h0 : 0 < j) (hj : j ≤ i) (hb : befP (payA es j) (payA es (j - 1)) = false) : SortE es (i + 1) := fun p q h1 h2 => by
 by_cases hq : q = j
 ·subst hq
  by_cases hp : p = q - 1
  ·subst hp; exact hb
  ·exact befP_tr (h p (q - 1) (by omega) (by omega) (by omega)) hb
 ·exact h p q h1 (by omega) hq
theorem payA_swap {es : List (Ent Edg)} {j k : Nat} (h0 : 0 < j) (hk : k < es.length) : payA (swapE es j) k = if k = j then payA es (j - 1) else if k = j - 1 then payA es j else payA es k := by
 unfold payA
 rw [swapE_at h0 hk]
 split
 ·rfl
 ·split <;> rfl
theorem sortX_swap {es : List (Ent Edg)} {i j : Nat} (h : SortX es i j) (h0 : 0 < j) (hj : j ≤ i) (hi : i < es.length) (hb : befP (payA es j) (payA es (j - 1)) = true) : SortX (swapE es j) i (j - 1) := fun p q h1 h2 h3 => by
 rw [payA_swap h0 (by omega), payA_swap h0 (by omega), if_neg h3]
 by_cases hq : q = j
 ·subst hq
  rw [if_pos rfl, if_neg (by omega)]
  by_cases hp : p = q - 1
  ·rw [if_pos hp]; exact befP_asymm hb
  ·rw [if_neg hp]; exact h p (q - 1) (by omega) (by omega) (by omega)
 ·rw [if_neg hq]
  by_cases hp : p = j
  ·rw [if_pos hp]; exact h (j - 1) q (by omega) h2 hq
  ·rw [if_neg hp]
   by_cases hp2 : p = j - 1
   ·rw [if_pos hp2]; exact h j q (by omega) h2 hq
   ·rw [if_neg hp2]; exact h p q h1 h2 hq


def PathsP (n : Nat) (fr to : List Int) (es : List (Ent Edg)) : Prop := (es.map pay).Perm (allP n fr to) ∧ SortE es es.length ∧ es.length ≤ 40 + n + fr.length

end Go.Proofs.Ytgkfampgofjkfaa
