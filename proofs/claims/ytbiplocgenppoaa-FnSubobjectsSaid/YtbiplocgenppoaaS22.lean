import Derived.Test.YtbiplocgenppoaaS4
import Derived.Test.YtbiplocgenppoaaS21
import Derived.Test.YtbiplocgenppoaaS14
set_option maxHeartbeats 4000000
set_option maxRecDepth 100000
set_option linter.unusedSimpArgs false
set_option linter.unusedVariables false
set_option linter.unusedSectionVars false
namespace Go.Proofs.Ytbiplocgenppoaa
open _root_.Go.Proofs.Try
open Go.RowKit
section
variable {w0 : World} {is : List Itm} {ops : Array Oper} {Q : Exit → Act → World → Prop} {o : Oper} {rest : List Oper} {N : Frm} {n m : Nat} {e : Env} {v : Value} {d : Nat} {K : Act → World → Prop} {f : FuncId} {fn : Func} {ags : Array Operand} {ts : Array TypeId} {vs : List Value}
theorem go_callP {R : List (Ent Edg) → Prop} (hd : o.dst = some d) (hN : Nat.blt d N = true) (hop : o.op = .call { callee := .value (.func f), args := ags, argTypes := ts }) (hfn : Try.prog.funcs[f]? = some fn) (hb : fn.body.isNone = false) (hn : (fn.name == "runtime.NumGoroutine") = false)
  (hargs : evoL e ags.toList = some vs) (hc : ∀ w, Mem w0 w is → Calls Try.prog f vs.toArray w (RetP w R)) (hk : ∀ a cap es pl, (∀ x ∈ es, x.2.2 ∈ pl ∧ x.2.2.2.length ≤ 41) → R es → GK w0 (is ++ [ownEI0 lab_path (.slice a es.length cap) es, poolI pl]) N K ((d, .slice a es.length cap) :: e)) : GO w0 is N o e Q K := by
 intro w a M F
 refine go_call hd hN F hop hfn hb hn hargs (hc w M) fun e' w' hR => ?_
 obtain ⟨v, es, pl, rfl, hs, hpl, hr, hbl⟩ := hR
 obtain ⟨S1, _, h1⟩ := star_in hs (List.mem_cons_self ..)
 obtain ⟨va, vc, rfl⟩ := ownE_form0 (show OwnE0 lab_path v es w' S1 from h1)
 exact ⟨_, rfl, fun a F => hk va vc es pl hpl hr w' a (mem_news M hbl hs) F⟩
end
def idP (n : Nat) (φ : Nat → Pay) : Nat → List Int
 | 0 => List.replicate n 0
 | i + 1 => if (φ i).2.2.length = 0 then (idP n φ i).set (φ i).1.toNat (i : Int) else idP n φ i
theorem idP_t {n : Nat} {φ : Nat → Pay} {i : Nat} (h : (φ i).2.2.length = 0) : (idP n φ i).set (φ i).1.toNat (i : Int) = idP n φ (i + 1) := by rw [idP, if_pos h]
theorem idP_f {n : Nat} {φ : Nat → Pay} {i : Nat} (h : ¬ (φ i).2.2.length = 0) : idP n φ i = idP n φ (i + 1) := by rw [idP, if_neg h]
theorem idP_len (n : Nat) (φ : Nat → Pay) : ∀ i, (idP n φ i).length = n
 | 0 => by simp [idP]
 | i + 1 => by rw [idP]; split <;> simp [idP_len n φ i]
def cmP (φ : Nat → Pay) (i j : Nat) : Nat → Int
 | 0 => -1
 | k + 1 => if (φ k).1 = (φ i).1 ∧ (φ k).2.2 = (φ i).2.2 ++ (φ j).2.2 then (k : Int) else cmP φ i j k
theorem cmP_t {φ : Nat → Pay} {i j k : Nat} (h : (φ k).1 = (φ i).1 ∧ (φ k).2.2 = (φ i).2.2 ++ (φ j).2.2) : (k : Int) = cmP φ i j (k + 1) := by rw [cmP, if_pos h]
theorem cmP_f {φ : Nat → Pay} {i j k : Nat} (h : ¬ ((φ k).1 = (φ i).1 ∧ (φ k).2.2 = (φ i).2.2 ++ (φ j).2.2)) : cmP φ i j k = cmP φ i j (k + 1) := by rw [cmP, if_neg h]
def elP (φ : Nat → Pay) (m i j : Nat) : Int := if (φ i).2.1 = (φ j).1 then cmP φ i j m else -1
theorem elP_t {φ : Nat → Pay} {m i j : Nat} (h : (φ i).2.1 = (φ j).1) : cmP φ i j m = elP φ m i j := (if_pos h).symm
theorem elP_f {φ : Nat → Pay} {m i j : Nat} (h : ¬ (φ i).2.1 = (φ j).1) : (-1 : Int) = elP φ m i j := (if_neg h).symm
def rwP (φ : Nat → Pay) (m i : Nat) : List Int := tabTo (elP φ m i) m
def pathsC (n : Nat) (φ : Nat → Pay) (m : Nat) : Cat := ⟨(n : Int), tabTo (fun k => (φ k).1) m, tabTo (fun k => (φ k).2.1) m, idP n φ m, if n ≤ 8 ∧ m ≤ 40 then rowsTo (rwP φ m) m else []⟩
theorem pathsC_big {n m : Nat} {φ : Nat → Pay} (h : ¬ (n ≤ 8 ∧ m ≤ 40)) : pathsC n φ m = ⟨(n : Int), tabTo (fun k => (φ k).1) m, tabTo (fun k => (φ k).2.1) m, idP n φ m, []⟩ := by rw [pathsC, if_neg h]
theorem pathsC_fit {n m : Nat} {φ : Nat → Pay} (h : n ≤ 8 ∧ m ≤ 40) : pathsC n φ m = ⟨(n : Int), tabTo (fun k => (φ k).1) m, tabTo (fun k => (φ k).2.1) m, idP n φ m, rowsTo (rwP φ m) m⟩ := by rw [pathsC, if_pos h]
theorem allP_fr {n : Nat} {fr to : List Int} : ∀ p ∈ allP n fr to, 0 ≤ p.1 ∧ p.1 < n := by
 have h : ∀ (f k : Nat) (L : List Pay), (∀ p ∈ L, 0 ≤ p.1 ∧ p.1 < (n : Int)) → ∀ p ∈ bfsP fr to f k L, 0 ≤ p.1 ∧ p.1 < (n : Int) := by
  intro f
  induction f with
  | zero => intro k L h; exact h
  | succ f ih =>
   intro k L h
   rw [bfsP]
   split
   ·next hc =>
    refine ih _ _ fun p hp => ?_
    rcases List.mem_append.1 hp with hp | hp
    ·exact h p hp
    obtain ⟨e, _, rfl⟩ := List.mem_map.1 hp
    refine h (L.getD k (0, 0, [])) ?_
    rw [List.getD_eq_getElem?_getD, List.getElem?_eq_getElem hc.1]
    exact List.getElem_mem hc.1
   exact h
 refine h _ _ _ fun p hp => ?_
 obtain ⟨x, hx, rfl⟩ := List.mem_map.1 hp
 have := List.mem_range.1 hx
 exact ⟨by show (0 : Int) ≤ (x : Int); omega, by show (x : Int) < n; omega⟩
theorem pathsP_fr {n : Nat} {fr to : List Int} {es : List (Ent Edg)} (h : PathsP n fr to es) {k : Nat} (hk : k < es.length) : 0 ≤ (atE0 es (k : Int)).1 ∧ (atE0 es (k : Int)).1 < n :=
 allP_fr (pay (atE0 es (k : Int))) (h.1.mem_iff.1 (List.mem_map.2 ⟨_, atE0_mem (by omega) (by omega), rfl⟩))
def RetPC (W : World) (n : Nat) (fr to : List Int) (e : Ending) (w : World) : Prop := ∃ es : List (Ent Edg), PathsP n fr to es ∧ RetC W (pathsC n (payA es) es.length) e w
theorem specPathsE_any (w : World) (n : Nat) (v1 v2 : Value) (fr to : List Int) (h1 : Rd w v1 fr) (h2 : Rd w v2 to) (hn : n ≤ 1000) (hf : fr.length ≤ 1000) (hft : to.length = fr.length) :
  Calls Try.prog 97 #[.int .i64 (n : Int), v1, v2] w (RetPC w n fr to) := by
 obtain ⟨v1a, v1c, rfl⟩ := rd_form h1
 obtain ⟨v2a, v2c, rfl⟩ := rd_form h2
 go_enter func97, Try.ntmps97
 refine gc_enter (N := 147) rfl (look_cons (k := 0) rfl (look_cons (k := 1) rfl (look_cons (k := 2) rfl (look_nil _)))) ?_
 refine gc_sr fun K1 hK1 => ?_
 refine gop fun K3 hK3 => ?_
 refine galC ?_
 intro B2
 refine hK3 _ _ ?_
 refine gnt (hK1 _ _ ?_)
 refine gc_sr fun K4 hK4 => ?_
 refine gm ?_
 refine gm ?_
 refine gm ?_
 refine gop fun K5 hK5 => ?_
 refine go_callP rfl rfl rfl func108 rfl (by decide) rfl (fun w M => specAll_any w _ _ _ _ _ (mem_rd M h1) (mem_rd M h2) (by first | assumption | omega) (by first | assumption | omega) (by first | assumption | omega)) ?_
 intro va vc es pl hpl hR
 refine hK5 _ _ ?_
 refine gas ?_
 refine gnt (hK4 _ _ ?_)
 refine gc_sr fun K6 hK6 => ?_
 refine gm ?_
 refine gop fun K8 hK8 => ?_
 refine go_slice0 rfl rfl rfl underlying24 ?_
 intro B7
 refine hK8 _ _ ?_
 refine gop fun K10 hK10 => ?_
 refine go_slice0 rfl rfl rfl underlying24 ?_
 intro B9
 refine hK10 _ _ ?_
 refine gm ?_
 refine gop fun K12 hK12 => ?_
 refine go_make1 rfl rfl rfl underlying24 rfl rfl (by omega) ?_
 intro B11
 refine hK12 _ _ ?_
 refine gop fun K14 hK14 => ?_
 refine go_sliceR0 rfl rfl rfl underlying25 ?_
 intro B13
 refine hK14 _ _ ?_
 refine gv (qt_build rfl rfl bt_Category) ?_
 refine gop fun K16 hK16 => ?_
 refine galC ?_
 intro B15
 refine hK16 _ _ ?_
 refine gop fun K17 hK17 => ?_
 refine gss 7 ?_
 refine hK17 _ _ ?_
 refine gnt (hK6 _ _ ?_)
 refine gc_seq fun K18 hK18 => ?_
 refine gc_seq fun K19 hK19 => ?_
 have hlen : es.length ≤ 40 + n + fr.length := hR.2.2
 refine gc_region ?_
 refine gas ?_
 refine gnt (hK19 _ _ ?_)
 refine gc_block ?_
 try simp only [sL]
 refine gc_loopT ([(0, _), (1, _), (2, _), (6, _), (7, _), (8, _)] : Env) (fun s : Nat × (Option Addr) × Nat × (Option Addr) × Nat => (fun (i : Nat) (a1 : Option Addr) (q1 : Nat) (a2 : Option Addr) (q2 : Nat) => (([(9, .int .i64 (i : Int))] : Env), ([(3, own1I (.slice a1 (tabTo (fun k : Nat => (atE0 es (k : Int)).1) i).length q1) (tabTo (fun k : Nat => (atE0 es (k : Int)).1) i)), (4, own1I (.slice a2 (tabTo (fun k : Nat => (atE0 es (k : Int)).2.1) i).length q2) (tabTo (fun k : Nat => (atE0 es (k : Int)).2.1) i)), (5, own1I (.slice (some ⟨B11, 0, none⟩) n n) (idP n (payA es) i)), (7, bxI B15 27 [.int .i64 (n : Int), .slice a1 (tabTo (fun k : Nat => (atE0 es (k : Int)).1) i).length q1, .slice a2 (tabTo (fun k : Nat => (atE0 es (k : Int)).2.1) i).length q2, .slice (some ⟨B11, 0, none⟩) n n, .slice (some ⟨B13, 0, none⟩) 0 0])] : List (Nat × Itm)), i ≤ es.length, es.length - i)) s.1 s.2.1 s.2.2.1 s.2.2.2.1 s.2.2.2.2) ((0, _, _, _, _)) (by repeat first | exact sub_nil | refine sub_cons rfl ?_) rfl (Nat.zero_le _) ?_
 rintro ⟨i, a1, q1, a2, q2⟩ hinv KL20 hKL20
 simp only [sU, sL] at hinv hKL20 ⊢
 have hi := hinv
 have ht1 := tabTo_len (fun k : Nat => (atE0 es (k : Int)).1) i
 have ht2 := tabTo_len (fun k : Nat => (atE0 es (k : Int)).2.1) i
 refine gc_seq fun K21 hK21 => ?_
 refine gc_sr fun K22 hK22 => ?_
 refine gm ?_
 refine gm ?_
 refine gv (qt_len rfl rfl (lab_ul0 lab_path) (fun w M => lenV_E0 (mem_ownE0 (n := 1) M rfl))) ?_
 refine gv (qt_lss rfl rfl rfl) ?_
 refine gnt (hK22 _ _ ?_)
 refine gc_cond rfl (fun hc0 => ?_) (fun hc0 => ?_)
 ·try simp only [sA] at hc0
  refine gc_skip ?_
  refine gk_then (hK21 _ _ ?_)
  refine gc_seq fun K23 hK23 => ?_
  refine gc_block ?_
  refine gc_seq fun K24 hK24 => ?_
  have hfr := pathsP_fr hR (k := i) (by omega)
  try simp only [sL]
  refine gc_cut ([(0, _), (1, _), (2, _), (6, _), (7, _), (8, _), (9, _), (30, _)] : Env) (fun s : (Option Addr) × Nat × Nat => (fun (b1 : Option Addr) (p1 : Nat) (D1 : Nat) => ([] : Env)) s.1 s.2.1 s.2.2) (fun s : (Option Addr) × Nat × Nat => (fun (b1 : Option Addr) (p1 : Nat) (D1 : Nat) => ([(3, own1I (.slice b1 (tabTo (fun k : Nat => (atE0 es (k : Int)).1) i ++ [(atE0 es (i : Int)).1]).length p1) (tabTo (fun k : Nat => (atE0 es (k : Int)).1) i ++ [(atE0 es (i : Int)).1])), (7, bxI B15 27 [.int .i64 (n : Int), .slice b1 (tabTo (fun k : Nat => (atE0 es (k : Int)).1) i ++ [(atE0 es (i : Int)).1]).length p1, .slice a2 (tabTo (fun k : Nat => (atE0 es (k : Int)).2.1) i).length q2, .slice (some ⟨B11, 0, none⟩) n n, .slice (some ⟨B13, 0, none⟩) 0 0])] : List (Nat × Itm))) s.1 s.2.1 s.2.2) (fun s : (Option Addr) × Nat × Nat => (fun (b1 : Option Addr) (p1 : Nat) (D1 : Nat) => ([own1I (.slice (some ⟨D1, 0, none⟩) 1 1) [(atE0 es (i : Int)).1]] : List Itm)) s.1 s.2.1 s.2.2) (by repeat first | exact sub_nil | refine sub_cons rfl ?_) ?_ (fun HJ25 => ?_)
  ·rintro ⟨b1, p1, D1⟩
   simp only [sU, sL]
   refine gk_then (hK24 _ _ ?_)
   refine gc_seq fun K26 hK26 => ?_
   try simp only [sL]
   refine gc_cut ([(0, _), (1, _), (2, _), (6, _), (7, _), (8, _), (9, _), (30, _)] : Env) (fun s : (Option Addr) × Nat × Nat => (fun (b2 : Option Addr) (p2 : Nat) (D2 : Nat) => ([] : Env)) s.1 s.2.1 s.2.2) (fun s : (Option Addr) × Nat × Nat => (fun (b2 : Option Addr) (p2 : Nat) (D2 : Nat) => ([(4, own1I (.slice b2 (tabTo (fun k : Nat => (atE0 es (k : Int)).2.1) i ++ [(atE0 es (i : Int)).2.1]).length p2) (tabTo (fun k : Nat => (atE0 es (k : Int)).2.1) i ++ [(atE0 es (i : Int)).2.1])), (7, bxI B15 27 [.int .i64 (n : Int), .slice b1 (tabTo (fun k : Nat => (atE0 es (k : Int)).1) i ++ [(atE0 es (i : Int)).1]).length p1, .slice b2 (tabTo (fun k : Nat => (atE0 es (k : Int)).2.1) i ++ [(atE0 es (i : Int)).2.1]).length p2, .slice (some ⟨B11, 0, none⟩) n n, .slice (some ⟨B13, 0, none⟩) 0 0])] : List (Nat × Itm))) s.1 s.2.1 s.2.2) (fun s : (Option Addr) × Nat × Nat => (fun (b2 : Option Addr) (p2 : Nat) (D2 : Nat) => ([own1I (.slice (some ⟨D2, 0, none⟩) 1 1) [(atE0 es (i : Int)).2.1]] : List Itm)) s.1 s.2.1 s.2.2) (by repeat first | exact sub_nil | refine sub_cons rfl ?_) ?_ (fun HJ27 => ?_)
   ·rintro ⟨b2, p2, D2⟩
    simp only [sU, sL]
    refine gk_then (hK26 _ _ ?_)
    refine gc_sr fun K28 hK28 => ?_
    refine gm ?_
    refine gm ?_
    refine gv (qt_indexP rfl rfl rfl rfl (fun w M => lenA_E0 (mem_ownE0 (n := 1) M rfl)) (by omega) (by omega)) ?_
    refine gv (qt_fieldPL (z := 0) (off := 2) rfl rfl underlying127 rfl (by kernel_rfl) rfl (fun w M => lenA_E0 (mem_ownE0 (n := 1) M rfl)) (by omega) (by omega)) ?_
    refine gv (qt_loadF2 rfl rfl underlying24 rfl (fun w M => mem_ownE0 (n := 1) M rfl) (by omega) (by omega)) ?_
    refine gv (qt_len rfl rfl ulE1 (fun w M => lenV_rd (mem_pool (n := 2) M rfl (hpl _ (atE0_mem (by omega) (by omega))).1))) ?_
    refine gv (qt_eql rfl rfl rfl) ?_
    refine gnt (hK28 _ _ ?_)
    refine gc_cond rfl (fun hc1 => ?_) (fun hc1 => ?_)
    ·try simp only [sA] at hc1
     have hil := idP_len n (payA es) i
     try simp only [sL]
     refine ga_start _ (fun w M => mem_erase 5 (M)) ?_
     refine gav 0 rfl (qtf underlying27 (z := 0) (off := 3)) ?_
     refine gav 1 rfl (qtl underlying24 (n := 6)) ?_
     refine gav 2 rfl (qt_move rfl rfl) ?_
     refine gav 3 rfl (qt_move rfl rfl) ?_
     refine gav 4 rfl (qt_indexP rfl rfl rfl rfl (fun w M => lenA_E0 (mem_ownE0 (n := 1) M rfl)) (by omega) (by omega)) ?_
     refine gav 5 rfl (qt_fieldPL (z := 0) (off := 0) rfl rfl underlying127 rfl (by kernel_rfl) rfl (fun w M => lenA_E0 (mem_ownE0 (n := 1) M rfl)) (by omega) (by omega)) ?_
     refine gav 6 rfl (qt_loadF0 rfl rfl underlying2 rfl (fun w M => mem_ownE0 (n := 1) M rfl) (by omega) (by omega)) ?_
     refine gav 7 rfl (qt_move rfl rfl) ?_
     refine gao 8 fun K29 hK29 => ?_
     refine gov (qti (fun w M => lenA_own1 (n := 5) rfl M)) ?_
     refine hK29 _ _ (fun w M => (ms1 5 10 M :)) ?_
     refine gao 9 fun K30 hK30 => ?_
     refine go_store1 (n := 5) rfl rfl rfl rfl (by kernel_rfl) rfl (by omega) (by omega) ?_
     refine hK30 _ _ (fun w M => (ms1 5 10 M :)) ?_
     refine ga_done (by kernel_rfl) ?_
     refine gk_block ?_
     refine gk_then (hK23 _ _ ?_)
     refine gc_region ?_
     refine gm ?_
     refine gv (qt_add rfl rfl rfl (by omega)) ?_
     refine gas ?_
     refine g_nil ?_
     rw [show (idP n (payA es) i).set (atE0 es (i : Int)).1.toNat (i : Int) = idP n (payA es) (i + 1) from idP_t (show (atE0 es (i : Int)).2.2.2.length = 0 by omega)]
     simp only [tabTo_succ]
     refine gk_then (gk_take 8 ?_)
     refine gk_sub ?hs_31 (hKL20 ((i + 1, _, _, _, _)) ?hi_31 ?hm_31)
     case hs_31 => repeat first | exact sub_nil | refine sub_cons rfl ?_
     case hi_31 => (try dsimp only); omega
     case hm_31 => (try dsimp only); omega
    try simp only [sA] at hc1
    refine gc_skip ?_
    refine gk_block ?_
    refine gk_then (hK23 _ _ ?_)
    refine gc_region ?_
    refine gm ?_
    refine gv (qt_add rfl rfl rfl (by omega)) ?_
    refine gas ?_
    refine g_nil ?_
    rw [idP_f (n := n) (φ := payA es) (i := i) (show ¬ (atE0 es (i : Int)).2.2.2.length = 0 by omega)]
    simp only [tabTo_succ]
    refine gk_then (gk_take 8 ?_)
    refine gk_sub ?hs_32 (hKL20 ((i + 1, _, _, _, _)) ?hi_32 ?hm_32)
    case hs_32 => repeat first | exact sub_nil | refine sub_cons rfl ?_
    case hi_32 => (try dsimp only); omega
    case hm_32 => (try dsimp only); omega
   simp only [sU, sL] at HJ27
   refine ga_start _ (fun w M => mem_erase 4 (mem_erase 7 (M))) ?_
   refine gav 0 rfl (qtf underlying27 (z := 0) (off := 2)) ?_
   refine gav 2 rfl (qt_move rfl rfl) ?_
   refine gav 3 rfl (qt_move rfl rfl) ?_
   refine gav 4 rfl (qt_indexP rfl rfl rfl rfl (fun w M => lenA_E0 (mem_ownE0 (n := 1) M rfl)) (by omega) (by omega)) ?_
   refine gav 5 rfl (qt_fieldPL (z := 0) (off := 1) rfl rfl underlying127 rfl (by kernel_rfl) rfl (fun w M => lenA_E0 (mem_ownE0 (n := 1) M rfl)) (by omega) (by omega)) ?_
   refine gav 6 rfl (qt_loadF1 rfl rfl underlying2 rfl (fun w M => mem_ownE0 (n := 1) M rfl) (by omega) (by omega)) ?_
   refine gat 1 7 (fun K33 hK33 => ?_) (fun K33 hK33 => ?_)
   ·refine gov (qtl underlying24 (n := 7)) ?_
    refine hK33 _ _ (fun w M => (ms0 4 7 9 M :)) ?_
    refine gao 7 fun K36 hK36 => ?_
    refine go_slice1 rfl rfl rfl rfl underlying24 ?_
    intro B35
    refine hK36 _ _ (fun w M => (ms0 4 7 9 M :)) ?_
    refine gao 8 fun K38 hK38 => ?_
    refine go_append (n := 4) (m := 9) rfl rfl rfl underlying24 rfl rfl rfl rfl (by omega) ?_
    intro va37 vc37
    refine hK38 _ _ (fun w M => (ms0 4 7 9 M :)) ?_
    refine gav 9 rfl (qtf underlying27 (z := 0) (off := 2)) ?_
    refine gao 10 fun K39 hK39 => ?_
    refine go_storeB (n := 7) rfl rfl rfl rfl (by kernel_rfl) rfl rfl rfl (by first | decide | simp) ?_
    refine hK39 _ _ (fun w M => (ms0 4 7 9 M :)) ?_
    refine ga_done (by kernel_rfl) ?_
    refine gk_pickL [0, 0, 0, 0, 0, 0, 0, 0, 0, 0] ?_
    refine gk_sub ?hs_40 (HJ27 (_, _, _))
    case hs_40 => repeat first | exact sub_nil | refine sub_cons rfl ?_
   refine go_slice1 rfl rfl rfl rfl underlying24 ?_
   intro B41
   refine hK33 _ _ (fun w M => (ms0 4 7 9 M :)) ?_
   refine gao 1 fun K43 hK43 => ?_
   refine gov (qtl underlying24 (n := 7)) ?_
   refine hK43 _ _ (fun w M => (ms0 4 7 9 M :)) ?_
   refine gao 8 fun K45 hK45 => ?_
   refine go_append (n := 4) (m := 9) rfl rfl rfl underlying24 rfl rfl rfl rfl (by omega) ?_
   intro va44 vc44
   refine hK45 _ _ (fun w M => (ms0 4 7 9 M :)) ?_
   refine gav 9 rfl (qtf underlying27 (z := 0) (off := 2)) ?_
   refine gao 10 fun K46 hK46 => ?_
   refine go_storeB (n := 7) rfl rfl rfl rfl (by kernel_rfl) rfl rfl rfl (by first | decide | simp) ?_
   refine hK46 _ _ (fun w M => (ms0 4 7 9 M :)) ?_
   refine ga_done (by kernel_rfl) ?_
   refine gk_pickL [0, 0, 0, 0, 0, 0, 0, 0, 0, 0] ?_
   refine gk_sub ?hs_47 (HJ27 (_, _, _))
   case hs_47 => repeat first | exact sub_nil | refine sub_cons rfl ?_
  simp only [sU, sL] at HJ25
  refine ga_start _ (fun w M => mem_erase 3 (mem_erase 7 (M))) ?_
  refine gav 0 rfl (qtf underlying27 (z := 0) (off := 1)) ?_
  refine gav 2 rfl (qt_move rfl rfl) ?_
  refine gav 3 rfl (qt_move rfl rfl) ?_
  refine gav 4 rfl (qt_indexP rfl rfl rfl rfl (fun w M => lenA_E0 (mem_ownE0 (n := 1) M rfl)) (by omega) (by omega)) ?_
  refine gav 5 rfl (qt_fieldPL (z := 0) (off := 0) rfl rfl underlying127 rfl (by kernel_rfl) rfl (fun w M => lenA_E0 (mem_ownE0 (n := 1) M rfl)) (by omega) (by omega)) ?_
  refine gav 6 rfl (qt_loadF0 rfl rfl underlying2 rfl (fun w M => mem_ownE0 (n := 1) M rfl) (by omega) (by omega)) ?_
  refine gat 1 7 (fun K48 hK48 => ?_) (fun K48 hK48 => ?_)
  ·refine gov (qtl underlying24 (n := 7)) ?_
   refine hK48 _ _ (fun w M => (ms0 3 7 8 M :)) ?_
   refine gao 7 fun K51 hK51 => ?_
   refine go_slice1 rfl rfl rfl rfl underlying24 ?_
   intro B50
   refine hK51 _ _ (fun w M => (ms0 3 7 8 M :)) ?_
   refine gao 8 fun K53 hK53 => ?_
   refine go_append (n := 3) (m := 8) rfl rfl rfl underlying24 rfl rfl rfl rfl (by omega) ?_
   intro va52 vc52
   refine hK53 _ _ (fun w M => (ms0 3 7 8 M :)) ?_
   refine gav 9 rfl (qtf underlying27 (z := 0) (off := 1)) ?_
   refine gao 10 fun K54 hK54 => ?_
   refine go_storeB (n := 7) rfl rfl rfl rfl (by kernel_rfl) rfl rfl rfl (by first | decide | simp) ?_
   refine hK54 _ _ (fun w M => (ms0 3 7 8 M :)) ?_
   refine ga_done (by kernel_rfl) ?_
   refine gk_pickL [0, 0, 0, 0, 0, 0, 0, 0, 0] ?_
   refine gk_sub ?hs_55 (HJ25 (_, _, _))
   case hs_55 => repeat first | exact sub_nil | refine sub_cons rfl ?_
  refine go_slice1 rfl rfl rfl rfl underlying24 ?_
  intro B56
  refine hK48 _ _ (fun w M => (ms0 3 7 8 M :)) ?_
  refine gao 1 fun K58 hK58 => ?_
  refine gov (qtl underlying24 (n := 7)) ?_
  refine hK58 _ _ (fun w M => (ms0 3 7 8 M :)) ?_
  refine gao 8 fun K60 hK60 => ?_
  refine go_append (n := 3) (m := 8) rfl rfl rfl underlying24 rfl rfl rfl rfl (by omega) ?_
  intro va59 vc59
  refine hK60 _ _ (fun w M => (ms0 3 7 8 M :)) ?_
  refine gav 9 rfl (qtf underlying27 (z := 0) (off := 1)) ?_
  refine gao 10 fun K61 hK61 => ?_
  refine go_storeB (n := 7) rfl rfl rfl rfl (by kernel_rfl) rfl rfl rfl (by first | decide | simp) ?_
  refine hK61 _ _ (fun w M => (ms0 3 7 8 M :)) ?_
  refine ga_done (by kernel_rfl) ?_
  refine gk_pickL [0, 0, 0, 0, 0, 0, 0, 0, 0] ?_
  refine gk_sub ?hs_62 (HJ25 (_, _, _))
  case hs_62 => repeat first | exact sub_nil | refine sub_cons rfl ?_
 try simp only [sA] at hc0
 refine gc_exit ?_
 refine gk_then_exit ?_
 refine gk_then_exit ?_
 refine gk_block_hit ?_
 refine gk_then (hK18 _ _ ?_)
 refine gc_seq fun K63 hK63 => ?_
 refine gc_seq fun K64 hK64 => ?_
 obtain rfl : i = es.length := by omega
 refine gc_region ?_
 refine gv (qts underlying27 (n := 7)) ?_
 refine g_q (.free rfl) rfl rfl (qt_call rfl func84 rfl (by decide) rfl (fun w M => specFits_any w _ (⟨(n : Int), tabTo (fun k : Nat => (atE0 es (k : Int)).1) es.length, tabTo (fun k : Nat => (atE0 es (k : Int)).2.1) es.length, idP n (payA es) es.length, []⟩ : Cat) (rdC_mk (c := (⟨(n : Int), tabTo (fun k : Nat => (atE0 es (k : Int)).1) es.length, tabTo (fun k : Nat => (atE0 es (k : Int)).2.1) es.length, idP n (payA es) es.length, []⟩ : Cat)) ((mem_own1 (n := 3) M rfl).rd) ((mem_own1 (n := 4) M rfl).rd) ((mem_own1 (n := 5) M rfl).rd) (mem_rdU (n := 6) M rfl)))) ?_
 refine gv (qt_not rfl rfl) ?_
 refine gnt (hK64 _ _ ?_)
 refine gc_cond rfl (fun hc2 => ?_) (fun hc2 => ?_)
 ·try simp only [sA] at hc2
  have hnf : ¬ (n ≤ 8 ∧ es.length ≤ 40) := fun h => by
   have hF : FitP (⟨(n : Int), tabTo (fun k : Nat => (atE0 es (k : Int)).1) es.length, tabTo (fun k : Nat => (atE0 es (k : Int)).2.1) es.length, idP n (payA es) es.length, []⟩ : Cat) := ⟨by show (n : Int) ≤ 8; omega, by show (tabTo _ _).length ≤ 40; rw [tabTo_len]; omega⟩
   rw [bP_t hF] at hc2; cases hc2
  refine gc_sr fun K65 hK65 => ?_
  refine gv (qts underlying27 (n := 7)) ?_
  refine gop fun K66 hK66 => ?_
  refine gss 0 ?_
  refine hK66 _ _ ?_
  refine gnt (hK65 _ _ ?_)
  refine gc_ret ?_
  refine gk_then_ret ?_
  refine ret_S (n := 0) rfl rfl underlying27 rfl (by kernel_rfl) rfl (fun w M => ?_)
  refine ⟨es, hR, ?_⟩
  rw [pathsC_big hnf]
  exact ⟨_, rfl, ownC_star (c := (⟨(n : Int), tabTo (fun k : Nat => (atE0 es (k : Int)).1) es.length, tabTo (fun k : Nat => (atE0 es (k : Int)).2.1) es.length, idP n (payA es) es.length, []⟩ : Cat)) (mem_pick (n := 6) (mem_pick (n := 6) (mem_pick (n := 6) (mem_pick (n := 6) (M) rfl) rfl) rfl) rfl).2, M.1⟩
 try simp only [sA] at hc2
 have hfit : n ≤ 8 ∧ es.length ≤ 40 := by
  have hF := bP_iff.1 hc2
  have g1 : (n : Int) ≤ 8 := hF.1
  have g2 : (tabTo (fun k : Nat => (atE0 es (k : Int)).1) es.length).length ≤ 40 := hF.2
  rw [tabTo_len] at g2; omega
 refine gc_skip ?_
 refine gk_then (hK63 _ _ ?_)
 refine gc_seq fun K67 hK67 => ?_
 refine gc_sr fun K68 hK68 => ?_
 refine gas ?_
 refine gnt (hK68 _ _ ?_)
 refine gc_block ?_
 try simp only [sL]
 refine gc_loopT ([(0, _), (1, _), (2, _), (6, _), (7, _), (8, _), (9, _), (30, _), (71, _)] : Env) (fun s : Nat × (Option Addr) × Nat × (List Value) => (fun (p : Nat) (a4 : Option Addr) (q4 : Nat) (us4 : List Value) => (([(10, .int .i64 (p : Int))] : Env), ([(6, own2U (.slice a4 (rowsTo (rwP (payA es) es.length) p).length q4) us4 (rowsTo (rwP (payA es) es.length) p)), (7, bxI B15 27 [.int .i64 (n : Int), .slice a1 (tabTo (fun k : Nat => (atE0 es (k : Int)).1) es.length).length q1, .slice a2 (tabTo (fun k : Nat => (atE0 es (k : Int)).2.1) es.length).length q2, .slice (some ⟨B11, 0, none⟩) n n, .slice a4 (rowsTo (rwP (payA es) es.length) p).length q4])] : List (Nat × Itm)), p ≤ es.length, es.length - p)) s.1 s.2.1 s.2.2.1 s.2.2.2) ((0, _, _, _)) (by repeat first | exact sub_nil | refine sub_cons rfl ?_) rfl (Nat.zero_le _) ?_
 rintro ⟨p, a4, q4, us4⟩ hinv KL69 hKL69
 simp only [sU, sL] at hinv hKL69 ⊢
 have hp := hinv
 have hr4 := rowsTo_len (rwP (payA es) es.length) p
 refine gc_seq fun K70 hK70 => ?_
 refine gc_sr fun K71 hK71 => ?_
 refine gm ?_
 refine gm ?_
 refine gv (qt_len rfl rfl (lab_ul0 lab_path) (fun w M => lenV_E0 (mem_ownE0 (n := 1) M rfl))) ?_
 refine gv (qt_lss rfl rfl rfl) ?_
 refine gnt (hK71 _ _ ?_)
 refine gc_cond rfl (fun hc3 => ?_) (fun hc3 => ?_)
 ·try simp only [sA] at hc3
  refine gc_skip ?_
  refine gk_then (hK70 _ _ ?_)
  refine gc_seq fun K72 hK72 => ?_
  refine gc_block ?_
  refine gc_sr fun K73 hK73 => ?_
  refine gop fun K75 hK75 => ?_
  refine go_slice0 rfl rfl rfl underlying24 ?_
  intro B74
  refine hK75 _ _ ?_
  refine gas ?_
  refine gnt (hK73 _ _ ?_)
  refine gc_seq fun K76 hK76 => ?_
  refine gc_sr fun K77 hK77 => ?_
  refine gas ?_
  refine gnt (hK77 _ _ ?_)
  refine gc_block ?_
  try simp only [sL]
  refine gc_loopT ([(0, _), (1, _), (2, _), (6, _), (7, _), (8, _), (9, _), (10, _), (30, _), (71, _), (76, _)] : Env) (fun s : Nat × (Option Addr) × Nat => (fun (k : Nat) (a5 : Option Addr) (q5 : Nat) => (([(11, .slice a5 (tabTo (elP (payA es) es.length p) k).length q5), (12, .int .i64 (k : Int))] : Env), ([(8, own1I (.slice a5 (tabTo (elP (payA es) es.length p) k).length q5) (tabTo (elP (payA es) es.length p) k))] : List (Nat × Itm)), k ≤ es.length, es.length - k)) s.1 s.2.1 s.2.2) ((0, _, _)) (by repeat first | exact sub_nil | refine sub_cons rfl ?_) rfl (Nat.zero_le _) ?_
  rintro ⟨k, a5, q5⟩ hinv KL78 hKL78
  simp only [sU, sL] at hinv hKL78 ⊢
  have hk := hinv
  have ht5 := tabTo_len (elP (payA es) es.length p) k
  refine gc_seq fun K79 hK79 => ?_
  refine gc_sr fun K80 hK80 => ?_
  refine gm ?_
  refine gm ?_
  refine gv (qt_len rfl rfl (lab_ul0 lab_path) (fun w M => lenV_E0 (mem_ownE0 (n := 1) M rfl))) ?_
  refine gv (qt_lss rfl rfl rfl) ?_
  refine gnt (hK80 _ _ ?_)
  refine gc_cond rfl (fun hc4 => ?_) (fun hc4 => ?_)
  ·try simp only [sA] at hc4
   refine gc_skip ?_
   refine gk_then (hK79 _ _ ?_)
   refine gc_seq fun K81 hK81 => ?_
   refine gc_block ?_
   refine gc_sr fun K82 hK82 => ?_
   refine gas ?_
   refine gnt (hK82 _ _ ?_)
   refine gc_seq fun K83 hK83 => ?_
   refine gc_seq fun K84 hK84 => ?_
   refine gc_draw (by kernel_rfl) ?_
   refine gdv (qt_move rfl rfl) ?_
   refine gdv (qt_move rfl rfl) ?_
   refine gdv (qt_indexP rfl rfl rfl rfl (fun w M => lenA_E0 (mem_ownE0 (n := 1) M rfl)) (by omega) (by omega)) ?_
   refine gdv (qt_fieldPL (z := 0) (off := 1) rfl rfl underlying127 rfl (by kernel_rfl) rfl (fun w M => lenA_E0 (mem_ownE0 (n := 1) M rfl)) (by omega) (by omega)) ?_
   refine gdv (qt_loadF1 rfl rfl underlying2 rfl (fun w M => mem_ownE0 (n := 1) M rfl) (by omega) (by omega)) ?_
   refine gdv (qt_move rfl rfl) ?_
   refine gdv (qt_move rfl rfl) ?_
   refine gdv (qt_indexP rfl rfl rfl rfl (fun w M => lenA_E0 (mem_ownE0 (n := 1) M rfl)) (by omega) (by omega)) ?_
   refine gdv (qt_fieldPL (z := 0) (off := 0) rfl rfl underlying127 rfl (by kernel_rfl) rfl (fun w M => lenA_E0 (mem_ownE0 (n := 1) M rfl)) (by omega) (by omega)) ?_
   refine gdv (qt_loadF0 rfl rfl underlying2 rfl (fun w M => mem_ownE0 (n := 1) M rfl) (by omega) (by omega)) ?_
   refine gdv (qt_eql rfl rfl rfl) ?_
   refine gd_nil ?_
   refine gk_then (hK84 _ _ ?_)
   refine gc_cond rfl (fun hc5 => ?_) (fun hc5 => ?_)
   ·try simp only [sA] at hc5
    have hce := hc5
    refine gc_seq fun K85 hK85 => ?_
    have hlp := (hpl _ (atE0_mem (i := (p : Int)) (by omega) (by omega))).2
    have hlk := (hpl _ (atE0_mem (i := (k : Int)) (by omega) (by omega))).2
    try simp only [sL]
    refine ga_start _ (fun w M => M) ?_
    refine gav 0 rfl (qt_move rfl rfl) ?_
    refine gav 1 rfl (qt_move rfl rfl) ?_
    refine gav 2 rfl (qt_indexP rfl rfl rfl rfl (fun w M => lenA_E0 (mem_ownE0 (n := 1) M rfl)) (by omega) (by omega)) ?_
    refine gav 3 rfl (qt_fieldPL (z := 0) (off := 2) rfl rfl underlying127 rfl (by kernel_rfl) rfl (fun w M => lenA_E0 (mem_ownE0 (n := 1) M rfl)) (by omega) (by omega)) ?_
    refine gav 4 rfl (qt_loadF2 rfl rfl underlying24 rfl (fun w M => mem_ownE0 (n := 1) M rfl) (by omega) (by omega)) ?_
    refine gav 6 rfl (qt_move rfl rfl) ?_
    refine gav 7 rfl (qt_move rfl rfl) ?_
    refine gav 8 rfl (qt_indexP rfl rfl rfl rfl (fun w M => lenA_E0 (mem_ownE0 (n := 1) M rfl)) (by omega) (by omega)) ?_
    refine gav 9 rfl (qt_fieldPL (z := 0) (off := 2) rfl rfl underlying127 rfl (by kernel_rfl) rfl (fun w M => lenA_E0 (mem_ownE0 (n := 1) M rfl)) (by omega) (by omega)) ?_
    refine gav 10 rfl (qt_loadF2 rfl rfl underlying24 rfl (fun w M => mem_ownE0 (n := 1) M rfl) (by omega) (by omega)) ?_
    refine gao 5 fun K87 hK87 => ?_
    refine go_callL rfl rfl rfl func68 rfl (by decide) rfl (fun w M => specOwn_any w _ _ (mem_pool (n := 2) M rfl (hpl _ (atE0_mem (by omega) (by omega))).1)) ?_
    intro va86 vc86
    refine hK87 _ _ (fun w M => (mem_take 9 M :)) ?_
    refine gao 11 fun K89 hK89 => ?_
    refine go_appendA (n := 9) rfl rfl rfl underlying24 rfl rfl rfl (fun w M => mem_pool (n := 2) M rfl (hpl _ (atE0_mem (by omega) (by omega))).1) (by first | simp; omega | omega) ?_
    intro va88 vc88
    refine hK89 _ _ (fun w M => (mem_take 9 M :)) ?_
    refine gav 12 rfl (qt_assign rfl rfl) ?_
    refine ga_done (by kernel_rfl) ?_
    refine gk_then (hK85 _ _ ?_)
    refine gc_sr fun K90 hK90 => ?_
    refine gas ?_
    refine gnt (hK90 _ _ ?_)
    refine gc_block ?_
    try simp only [sL]
    refine gc_loopT ([(0, _), (1, _), (2, _), (6, _), (7, _), (8, _), (9, _), (10, _), (11, _), (12, _), (14, _), (30, _), (71, _), (76, _), (83, _), (96, _)] : Env) (fun s : Nat => (fun (l : Nat) => (([(13, .int .i64 (cmP (payA es) p k l)), (15, .int .i64 (l : Int))] : Env), ([] : List (Nat × Itm)), l ≤ es.length, es.length - l)) s) (0) (by repeat first | exact sub_nil | refine sub_cons rfl ?_) rfl (Nat.zero_le _) ?_
    rintro l hinv KL91 hKL91
    simp only [sU, sL] at hinv hKL91 ⊢
    have hl := hinv
    refine gc_seq fun K92 hK92 => ?_
    refine gc_sr fun K93 hK93 => ?_
    refine gm ?_
    refine gm ?_
    refine gv (qt_len rfl rfl (lab_ul0 lab_path) (fun w M => lenV_E0 (mem_ownE0 (n := 1) M rfl))) ?_
    refine gv (qt_lss rfl rfl rfl) ?_
    refine gnt (hK93 _ _ ?_)
    refine gc_cond rfl (fun hc6 => ?_) (fun hc6 => ?_)
    ·try simp only [sA] at hc6
     refine gc_skip ?_
     refine gk_then (hK92 _ _ ?_)
     refine gc_seq fun K94 hK94 => ?_
     refine gc_block ?_
     refine gc_seq fun K95 hK95 => ?_
     refine gc_draw (by kernel_rfl) ?_
     refine gdv (qt_move rfl rfl) ?_
     refine gdv (qt_move rfl rfl) ?_
     refine gdv (qt_indexP rfl rfl rfl rfl (fun w M => lenA_E0 (mem_ownE0 (n := 1) M rfl)) (by omega) (by omega)) ?_
     refine gdv (qt_fieldPL (z := 0) (off := 0) rfl rfl underlying127 rfl (by kernel_rfl) rfl (fun w M => lenA_E0 (mem_ownE0 (n := 1) M rfl)) (by omega) (by omega)) ?_
     refine gdv (qt_loadF0 rfl rfl underlying2 rfl (fun w M => mem_ownE0 (n := 1) M rfl) (by omega) (by omega)) ?_
     refine gdv (qt_move rfl rfl) ?_
     refine gdv (qt_move rfl rfl) ?_
     refine gdv (qt_indexP rfl rfl rfl rfl (fun w M => lenA_E0 (mem_ownE0 (n := 1) M rfl)) (by omega) (by omega)) ?_
     refine gdv (qt_fieldPL (z := 0) (off := 0) rfl rfl underlying127 rfl (by kernel_rfl) rfl (fun w M => lenA_E0 (mem_ownE0 (n := 1) M rfl)) (by omega) (by omega)) ?_
     refine gdv (qt_loadF0 rfl rfl underlying2 rfl (fun w M => mem_ownE0 (n := 1) M rfl) (by omega) (by omega)) ?_
     refine gdv (qt_eql rfl rfl rfl) ?_
     refine gd_splitv (.free rfl) rfl rfl (qt_move rfl rfl) (fun hs25_11 => ?_) (fun hs25_11 => ?_)
     ·try simp only [sA] at hs25_11
      refine gdvh (qt_move rfl rfl) ?_
      refine gdvh (qt_move rfl rfl) ?_
      refine gdvh (qt_indexP rfl rfl rfl rfl (fun w M => lenA_E0 (mem_ownE0 (n := 1) M rfl)) (by omega) (by omega)) ?_
      refine gdvh (qt_fieldPL (z := 0) (off := 2) rfl rfl underlying127 rfl (by kernel_rfl) rfl (fun w M => lenA_E0 (mem_ownE0 (n := 1) M rfl)) (by omega) (by omega)) ?_
      refine gdvh (qt_loadF2 rfl rfl underlying24 rfl (fun w M => mem_ownE0 (n := 1) M rfl) (by omega) (by omega)) ?_
      refine gdvh (qt_move rfl rfl) ?_
      refine gd_q (.held _ _ _ rfl rfl rfl) rfl rfl (qt_call rfl func109 rfl (by decide) rfl (fun w M => specSame_any w _ _ _ _ (mem_pool (n := 2) M rfl (hpl _ (atE0_mem (by omega) (by omega))).1) ((mem_own1 (n := 9) M rfl).rd))) ?_
      refine gdv (qt_pick_t rfl rfl rfl) ?_
      refine gd_nil ?_
      refine gk_then (hK95 _ _ ?_)
      refine gc_cond rfl (fun hc7 => ?_) (fun hc7 => ?_)
      ·try simp only [sA] at hc7
       refine gc_region ?_
       refine gm ?_
       refine gas ?_
       refine g_nil ?_
       refine gk_block ?_
       refine gk_then (hK94 _ _ ?_)
       refine gc_region ?_
       refine gm ?_
       refine gv (qt_add rfl rfl rfl (by omega)) ?_
       refine gas ?_
       refine g_nil ?_
       rw [show (Value.int IntKind.i64 (l : Int)) = Value.int IntKind.i64 (cmP (payA es) p k (l + 1)) from congrArg _ (cmP_t ⟨hs25_11, hc7⟩)]
       refine gk_then (gk_take 10 ?_)
       refine gk_sub ?hs_96 (hKL91 (l + 1) ?hi_96 ?hm_96)
       case hs_96 => repeat first | exact sub_nil | refine sub_cons rfl ?_
       case hi_96 => (try dsimp only); omega
       case hm_96 => (try dsimp only); omega
      try simp only [sA] at hc7
      refine gc_skip ?_
      refine gk_block ?_
      refine gk_then (hK94 _ _ ?_)
      refine gc_region ?_
      refine gm ?_
      refine gv (qt_add rfl rfl rfl (by omega)) ?_
      refine gas ?_
      refine g_nil ?_
      rw [cmP_f (φ := payA es) (fun h => hc7 h.2)]
      refine gk_then (gk_take 10 ?_)
      refine gk_sub ?hs_97 (hKL91 (l + 1) ?hi_97 ?hm_97)
      case hs_97 => repeat first | exact sub_nil | refine sub_cons rfl ?_
      case hi_97 => (try dsimp only); omega
      case hm_97 => (try dsimp only); omega
     try simp only [sA] at hs25_11
     refine gdsk ?_
     refine gdsk ?_
     refine gdsk ?_
     refine gdsk ?_
     refine gdsk ?_
     refine gdsk ?_
     refine gdsk ?_
     refine gdv (qt_pick_f rfl rfl rfl) ?_
     refine gd_nil ?_
     refine gk_then (hK95 _ _ ?_)
     refine gc_cond_f rfl ?_
     refine gc_skip ?_
     refine gk_block ?_
     refine gk_then (hK94 _ _ ?_)
     refine gc_region ?_
     refine gm ?_
     refine gv (qt_add rfl rfl rfl (by omega)) ?_
     refine gas ?_
     refine g_nil ?_
     rw [cmP_f (φ := payA es) (fun h => hs25_11 h.1)]
     refine gk_then (gk_take 10 ?_)
     refine gk_sub ?hs_98 (hKL91 (l + 1) ?hi_98 ?hm_98)
     case hs_98 => repeat first | exact sub_nil | refine sub_cons rfl ?_
     case hi_98 => (try dsimp only); omega
     case hm_98 => (try dsimp only); omega
    try simp only [sA] at hc6
    refine gc_exit ?_
    refine gk_then_exit ?_
    refine gk_then_exit ?_
    refine gk_block_hit ?_
    refine gk_then (hK83 _ _ ?_)
    refine gc_region ?_
    refine gm ?_
    refine gm ?_
    refine gop fun K100 hK100 => ?_
    refine go_slice1 rfl rfl rfl rfl underlying24 ?_
    intro B99
    refine hK100 _ _ ?_
    refine gop fun K102 hK102 => ?_
    refine go_append (n := 8) (m := 10) rfl rfl rfl underlying24 rfl rfl rfl rfl (by omega) ?_
    intro va101 vc101
    refine hK102 _ _ ?_
    refine gas ?_
    refine g_nil ?_
    refine gk_block ?_
    refine gk_then (hK81 _ _ ?_)
    refine gc_region ?_
    refine gm ?_
    refine gv (qt_add rfl rfl rfl (by omega)) ?_
    refine gas ?_
    refine g_nil ?_
    obtain rfl : l = es.length := by omega
    rw [elP_t (φ := payA es) hce]
    simp only [tabTo_succ]
    refine gk_then (gk_take 9 ?_)
    refine gk_sub ?hs_103 (hKL78 ((k + 1, _, _)) ?hi_103 ?hm_103)
    case hs_103 => repeat first | exact sub_nil | refine sub_cons rfl ?_
    case hi_103 => (try dsimp only); omega
    case hm_103 => (try dsimp only); omega
   try simp only [sA] at hc5
   have hce := hc5
   refine gc_skip ?_
   refine gk_then (hK83 _ _ ?_)
   refine gc_region ?_
   refine gm ?_
   refine gm ?_
   refine gop fun K105 hK105 => ?_
   refine go_slice1 rfl rfl rfl rfl underlying24 ?_
   intro B104
   refine hK105 _ _ ?_
   refine gop fun K107 hK107 => ?_
   refine go_append (n := 8) (m := 9) rfl rfl rfl underlying24 rfl rfl rfl rfl (by omega) ?_
   intro va106 vc106
   refine hK107 _ _ ?_
   refine gas ?_
   refine g_nil ?_
   refine gk_block ?_
   refine gk_then (hK81 _ _ ?_)
   refine gc_region ?_
   refine gm ?_
   refine gv (qt_add rfl rfl rfl (by omega)) ?_
   refine gas ?_
   refine g_nil ?_
   rw [elP_f (φ := payA es) (m := es.length) hce]
   simp only [tabTo_succ]
   refine gk_then (gk_take 9 ?_)
   refine gk_sub ?hs_108 (hKL78 ((k + 1, _, _)) ?hi_108 ?hm_108)
   case hs_108 => repeat first | exact sub_nil | refine sub_cons rfl ?_
   case hi_108 => (try dsimp only); omega
   case hm_108 => (try dsimp only); omega
  try simp only [sA] at hc4
  refine gc_exit ?_
  refine gk_then_exit ?_
  refine gk_then_exit ?_
  refine gk_block_hit ?_
  refine gk_then (hK76 _ _ ?_)
  refine gc_region ?_
  refine gv (qtf underlying27 (z := 0) (off := 4)) ?_
  refine gv (qtl underlying25 (n := 7)) ?_
  refine gm ?_
  refine gop fun K110 hK110 => ?_
  refine go_sliceR1 (m := 8) rfl rfl rfl rfl underlying25 rfl ?_
  intro B109
  refine hK110 _ _ ?_
  refine gop fun K112 hK112 => ?_
  refine go_appendRow (n := 6) (m := 8) (m' := 7) rfl rfl rfl underlying25 rfl rfl rfl rfl rfl (by omega) ?_
  intro va111 vc111
  refine hK112 _ _ ?_
  refine gv (qtf underlying27 (z := 0) (off := 4)) ?_
  refine gop fun K113 hK113 => ?_
  refine go_storeB (n := 7) rfl rfl rfl rfl (by kernel_rfl) rfl rfl rfl (by first | decide | simp) ?_
  refine hK113 _ _ ?_
  refine g_nil ?_
  refine gk_block ?_
  refine gk_then (hK72 _ _ ?_)
  refine gc_region ?_
  refine gm ?_
  refine gv (qt_add rfl rfl rfl (by omega)) ?_
  refine gas ?_
  refine g_nil ?_
  obtain rfl : k = es.length := by omega
  have ht : tabTo (elP (payA es) es.length p) es.length = rwP (payA es) es.length p := rfl
  simp only [ht, rowsTo_succ]
  refine gk_then (gk_take 8 ?_)
  refine gk_sub ?hs_114 (hKL69 ((p + 1, _, _, _)) ?hi_114 ?hm_114)
  case hs_114 => repeat first | exact sub_nil | refine sub_cons rfl ?_
  case hi_114 => (try dsimp only); omega
  case hm_114 => (try dsimp only); omega
 try simp only [sA] at hc3
 refine gc_exit ?_
 refine gk_then_exit ?_
 refine gk_then_exit ?_
 refine gk_block_hit ?_
 refine gk_then (hK67 _ _ ?_)
 refine gc_sr fun K115 hK115 => ?_
 refine gv (qts underlying27 (n := 7)) ?_
 refine gop fun K116 hK116 => ?_
 refine gss 0 ?_
 refine hK116 _ _ ?_
 refine gnt (hK115 _ _ ?_)
 refine gc_ret ?_
 refine ret_S (n := 0) rfl rfl underlying27 rfl (by kernel_rfl) rfl (fun w M => ?_)
 obtain rfl : p = es.length := by omega
 refine ⟨es, hR, ?_⟩
 rw [pathsC_fit hfit]
 exact ⟨_, rfl, ownC_star (c := (⟨(n : Int), tabTo (fun k : Nat => (atE0 es (k : Int)).1) es.length, tabTo (fun k : Nat => (atE0 es (k : Int)).2.1) es.length, idP n (payA es) es.length, rowsTo (rwP (payA es) es.length) es.length⟩ : Cat)) (mem_pick (n := 6) (mem_pick (n := 6) (mem_pick (n := 6) (mem_pick (n := 6) (M) rfl) rfl) rfl) rfl).2, M.1⟩
end Go.Proofs.Ytbiplocgenppoaa
