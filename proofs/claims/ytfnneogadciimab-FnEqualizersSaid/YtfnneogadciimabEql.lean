
/- The law of equalizers on drawn maps: both maps agree just on their equalizer and become equal behind their coequalizer: its walk. -/
import Derived.Test.YtfnneogadciimabCong
import Derived.Test.YtfnneogadciimabAlike
import Derived.Test.YtfnneogadciimabEqual
import Derived.Test.YtfnneogadciimabThM
set_option linter.unusedSimpArgs false
set_option linter.unusedVariables false
set_option linter.unusedSectionVars false
namespace Go.Proofs.Ytfnneogadciimab
open Go.RowKit


theorem two_loc (y z : Value) (xs ys : List Int) : Loc (fun w S => Own1 y xs w S ∧ Own1 z ys w S) where
  keep hs ha h := ⟨(own1_loc y xs).keep hs ha h.1, (own1_loc z ys).keep hs ha h.2⟩
/-- Two lists of the call's own that nothing writes. -/
def twoI (y z : Value) (xs ys : List Int) : Itm := ⟨_, two_loc y z xs ys⟩
section
variable {w0 : World} {is : List Itm} {ops : Array Oper} {Q : Exit → Act → World → Prop} {o : Oper} {rest : List Oper} {N : Frm} {e : Env} {v : Value} {d : Nat} {K : Act → World → Prop} {f : FuncId} {fn : Func} {ags : Array Operand} {ts : Array TypeId} {vs : List Value}
theorem two_rd1 {w : World} {n : Nat} {y z : Value} {xs ys : List Int} (M : Mem w0 w is) (h : is[n]? = some (twoI y z xs ys)) : Rd w y xs := by
  obtain ⟨S, _, hb⟩ := mem_get M h
  exact (hb.1 : Own1 y xs w S).rd
theorem two_rd2 {w : World} {n : Nat} {y z : Value} {xs ys : List Int} (M : Mem w0 w is) (h : is[n]? = some (twoI y z xs ys)) : Rd w z ys := by
  obtain ⟨S, _, hb⟩ := mem_get M h
  exact (hb.2 : Own1 z ys w S).rd
theorem go_callTwo (hd : o.dst = some d) (hN : Nat.blt d N = true) (hop : o.op = .call { callee := .value (.func f), args := ags, argTypes := ts }) (hfn : Try.prog.funcs[f]? = some fn) (hb : fn.body.isNone = false) (hn : (fn.name == "runtime.NumGoroutine") = false)
    (hargs : evoL e ags.toList = some vs) (hc : ∀ w, Mem w0 w is → Calls Try.prog f vs.toArray w (fun e w' => ∃ (n : Int) (xs ys : List Int) (y z : Value), e = .returned (.tuple #[.int .i64 n, y, z]) ∧ Sl w' w.heap.size y xs ∧ xs.length ≤ 301 ∧ Sl w' w.heap.size z ys ∧ ys.length ≤ 301 ∧ CountP n ∧ Below w.heap.size w w'))
    (hk : ∀ (n : Int) (xs ys : List Int) (a : Option Addr) (k : Nat) (b : Option Addr) (j : Nat), xs.length ≤ 301 → ys.length ≤ 301 → CountP n → GK w0 (is ++ [twoI (.slice a xs.length k) (.slice b ys.length j) xs ys]) N K ((d, .tuple #[.int .i64 n, .slice a xs.length k, .slice b ys.length j]) :: e)) : GO w0 is N o e Q K := by
  intro w a M F
  refine go_call hd hN F hop hfn hb hn hargs (hc w M) fun e' w' hR => ?_
  obtain ⟨n, xs, ys, y, z, rfl, h1, l1, h2, l2, hcn, hbl⟩ := hR
  obtain ⟨ya, yc, rfl⟩ := rd_form h1.rd
  obtain ⟨za, zc, rfl⟩ := rd_form h2.rd
  exact ⟨_, rfl, fun a F => hk n xs ys ya yc za zc l1 l2 hcn w' a (mem_new M hbl ⟨own1_of h1, own1_of h2⟩) F⟩
theorem qt_max {x y : Operand} {t t' : TypeId} {a b : Int} (hop : o.op = .call { callee := .builtin .max, args := #[x, y], argTypes := #[t, t'] }) (hx : evo e x = some (.int .i64 a)) (hy : evo e y = some (.int .i64 b)) : QV w0 is o e (.int .i64 (max a b)) :=
  fun w ac M F => by
    have hx := F _ _ hx; have hy := F _ _ hy
    simp [execOp, hop, resolve, invoke, builtin, Builtin.max_, Builtin.max2, hx, hy, Sem.run_bind, Sem.run_pure, Result.andThen_ok, go_sem]
    split <;> omega
theorem g_skipU {j t : Nat} {b : Bool} (h : o.guard = some (j, b)) (hj : (ops[j]?).bind (·.dst) = some t) (ht : look e t = some undef) (hd : o.dst = some d) (hN : Nat.blt d N = true) (hk : G w0 is N ops Q rest ((d, undef) :: e)) : G w0 is N ops Q (o :: rest) e := by
  intro w a M F R
  unfold wpListIn
  have hw : Region.wanted o (yielded ops a.tmps) = false := by
    simp [Region.wanted, h, yielded, hj, F.at_ t _ ht, undef]
  rw [if_neg (by simp [hw]), hd]
  exact ⟨fun _ _ => trivial, hk w _ M (fit_put F hN) R.r⟩
end
/-! ### The lists -/
def topF (p : List Int) : Nat → Int
  | 0 => 0
  | k + 1 => max (topF p k) (at0 p (k : Int) + 1)
theorem topF_succ (p : List Int) (k : Nat) : max (topF p k) (at0 p (k : Int) + 1) = topF p (k + 1) := rfl
theorem topF_ge (p : List Int) : ∀ k, 0 ≤ topF p k ∧ ∀ j : Nat, j < k → at0 p (j : Int) < topF p k
  | 0 => ⟨Int.le_refl _, fun j hj => absurd hj (by omega)⟩
  | k + 1 => by
    have ih := topF_ge p k
    show 0 ≤ max _ _ ∧ ∀ j : Nat, j < k + 1 → _ < max _ _
    refine ⟨by omega, fun j hj => ?_⟩
    by_cases h : j < k
    · have := ih.2 j h; omega
    · obtain rfl : j = k := by omega
      omega
theorem topF_le {p : List Int} {b : Int} (hb : 0 ≤ b) (h : ∀ j : Nat, j < p.length → at0 p (j : Int) < b) : ∀ k, k ≤ p.length → topF p k ≤ b
  | 0, _ => hb
  | k + 1, hk => by
    have ih := topF_le hb h k (by omega)
    have := h k (by omega)
    show max _ _ ≤ b
    omega
theorem cls_nat (l : List Int) {k : Nat} (hk : k < l.length) : 0 ≤ at0 (clsOf l) (k : Int) ∧ at0 (clsOf l) (k : Int) < l.length := by
  rw [at0_nat, clsOf_getD hk]
  have h1 := List.idxOf_le_length (a := l.getD k 0) (l := seenOf (l.take k))
  have h2 := seenOf_len (l.take k)
  have h3 : (l.take k).length = k := by simp; omega
  omega
/-- What a coequalizer has. -/
theorem coeq_facts {n : Int} {f g : List Int} (hz : codeTwo n f g = 0) : let m := clsOf (implL n.toNat (prs f g f.length))
    fThenMaps n f (topF m m.length) m = (thenL f m, 0) ∧ fThenMaps n g (topF m m.length) m = (thenL f m, 0) := by
  intro m
  obtain ⟨hmf, hmg, hl⟩ := codeTwo_maps hz
  have hn0 := hmf.1.1; have hn1 := hmf.1.2
  have hml : m.length = n.toNat := by show (clsOf _).length = _; rw [clsOf_len, implL_len]
  have hmi : ∀ k : Nat, k < m.length → 0 ≤ at0 m (k : Int) ∧ at0 m (k : Int) < m.length := fun k hk => by
    have := cls_nat (implL n.toNat (prs f g f.length)) (k := k) (by rw [implL_len]; omega)
    rw [implL_len] at this
    exact ⟨this.1, by rw [hml]; exact this.2⟩
  have htop := topF_ge m m.length
  have htl := topF_le (p := m) (b := 256) (by omega) (fun j hj => by have := (hmi j hj).2; omega) m.length (Nat.le_refl _)
  have hS : SizeP (topF m m.length) := ⟨htop.1, htl⟩
  have hM : MapP (topF m m.length) m := by
    refine ⟨hS, by omega, fun x hx => ?_⟩
    obtain ⟨j, hj, rfl⟩ := List.getElem_of_mem hx
    have e : m[j] = at0 m (j : Int) := by rw [at0_nat, List.getD_eq_getElem?_getD, List.getElem?_eq_getElem hj]; rfl
    rw [e]; exact ⟨(hmi j hj).1, htop.2 j hj⟩
  have hlen : (m.length : Int) = n := by omega
  have hT : ∀ h : List Int, MapP n h → fThenMaps n h (topF m m.length) m = (thenL h m, 0) := fun h hh => by
    unfold fThenMaps; rw [if_pos ⟨hmf.1, hS⟩, if_pos ⟨hh, hM, hlen⟩]
  refine ⟨hT f hmf, ?_⟩
  rw [hT g hmg]
  refine Prod.ext ?_ rfl
  have hps := prs_pairs hmf.2.2 hmg.2.2 hl
  have hmc : m = clsOf (specL n.toNat (prs f g f.length)) := (join_cls hps).symm
  have hk := ker_cls2 (specL n.toNat (prs f g f.length))
  rw [← hmc] at hk
  refine List.ext_getElem (by simp [thenL, hl]) fun j h1 h2 => ?_
  simp only [thenL, List.length_map] at h1 h2
  simp only [thenL, List.getElem_map]
  have hq : [f.getD j 0, g.getD j 0] ∈ prs f g f.length := by simp only [prs, List.mem_map, List.mem_range]; exact ⟨j, h2, rfl⟩
  have hr := relL_has hps hq
  have hrng := pair_range (hps _ hq)
  have := (hk.2 (pa [f.getD j 0, g.getD j 0]) (pb [f.getD j 0, g.getD j 0]) (by rw [specL_len]; exact hrng.1) (by rw [specL_len]; exact hrng.2.1)).1 hr
  have e1 : f[j] = f.getD j 0 := by rw [List.getD_eq_getElem?_getD, List.getElem?_eq_getElem h2]; rfl
  have e2 : g[j] = g.getD j 0 := by rw [List.getD_eq_getElem?_getD, List.getElem?_eq_getElem h1]; rfl
  rw [e1, e2]
  exact this.symm
theorem idxs_mem {p : Nat → Bool} {k : Nat} {x : Nat} : ((x : Int) ∈ idxs p k) ↔ x < k ∧ p x = true := by
  simp only [idxs, List.mem_map, List.mem_filter, List.mem_range]
  constructor
  · rintro ⟨a, h, e⟩
    obtain rfl : a = x := by omega
    exact h
  · intro h; exact ⟨x, h, rfl⟩


set_option maxHeartbeats 800000 in
set_option maxRecDepth 100000 in
theorem drawCoeq_any (w : World) (v : Value) (h : InB w v) :
    Calls Try.prog 57 #[v] w (fun e w' => ∃ (n : Int) (xs ys : List Int) (y z : Value), e = .returned (.tuple #[.int .i64 n, y, z]) ∧ Sl w' w.heap.size y xs ∧ xs.length ≤ 301 ∧ Sl w' w.heap.size z ys ∧ ys.length ≤ 301 ∧ CountP n ∧ Below w.heap.size w w') := by
  go_enter Try.func57, Try.ntmps57
  go_wp2_with fail
  refine (two_any _ _ h).mono ?_; rintro e w1 ⟨n, xs, ys, y, z, rfl, hs, hl, hs2, hl2, hn, hb⟩
  go_wp2
  go_ret3
  exact ⟨n, xs, ys, y, z, rfl, hs, hl, hs2, hl2, hn, hb⟩
theorem bigN_any (w : World) (a : Option Addr) (len cap : Nat) (hl : len ≤ 9223372036854775807) : Calls Try.prog 38 #[.slice a len cap] w (RetB w (decide (4096 < (len : Int)))) := by
  go_enter Try.func38, Try.ntmps38
  go_wp2
  go_ret
  exact ⟨by simp, (Below.refl _ _)⟩

set_option maxHeartbeats 1000000 in
set_option maxRecDepth 100000 in
theorem top5_any (w : World) (v : Value) (p : List Int) (h : Rd w v p) (hs : ∀ j : Nat, j < p.length → 0 ≤ at0 p (j : Int) ∧ at0 p (j : Int) < 1000) :
    Calls Try.prog 61 #[v] w (RetI w (topF p p.length)) := by
  obtain ⟨va, vc, rfl⟩ := rd_form h
  have hxl : p.length ≤ 17592186044415 := by obtain ⟨_, _, _, hl, _⟩ := h; exact hl
  go_enter Try.func61, Try.ntmps61
  refine gc_enter (N := 19) rfl (look_cons (k := 0) rfl (look_nil _)) ?_
  refine gc_seq fun K1 hK1 => ?_
  refine gc_region ?_
  refine g_v (.free rfl) rfl rfl (qt_assign rfl rfl) ?_
  refine g_nil ?_
  refine gk_then (hK1 _ _ ?_)
  refine gc_seq fun K2 hK2 => ?_
  refine gc_region ?_
  refine g_v (.free rfl) rfl rfl (qt_assign rfl rfl) ?_
  refine g_nil ?_
  refine gk_then (hK2 _ _ ?_)
  refine gc_seq fun K3 hK3 => ?_
  refine gc_seq fun K4 hK4 => ?_
  refine gc_region ?_
  refine g_v (.free rfl) rfl rfl (qt_assign rfl rfl) ?_
  refine g_nil ?_
  refine gk_then (hK4 _ _ ?_)
  refine gc_block ?_
  try simp only [List.nil_append, List.cons_append, List.append_assoc, List.set_cons_succ, List.set_cons_zero]
  refine gc_loop ([(0, _), (2, _)] : Env) (fun s : Nat => (fun (k : Nat) => ([(3, .int .i64 (topF p k)), (4, .int .i64 (k : Int))] : Env)) s) (fun s : Nat => (fun (k : Nat) => ([] : List (Nat × Itm))) s) (fun s : Nat => (fun (k : Nat) => k ≤ p.length) s) (fun s : Nat => (fun (k : Nat) => p.length - k) s) (0) (sub_cons rfl (sub_cons rfl (sub_cons rfl (sub_cons rfl sub_nil)))) rfl (Nat.zero_le _) ?_
  rintro k hinv KL5 hKL5
  simp only [updL, List.foldl_cons, List.foldl_nil, List.set_cons_succ, List.set_cons_zero, List.cons_append, List.nil_append] at hinv hKL5 ⊢
  have hk := hinv
  refine gc_seq fun K6 hK6 => ?_
  refine gc_seq fun K7 hK7 => ?_
  refine gc_region ?_
  refine g_v (.free rfl) rfl rfl (qt_move rfl rfl) ?_
  refine g_v (.free rfl) rfl rfl (qt_move rfl rfl) ?_
  refine g_v (.free rfl) rfl rfl (qt_len rfl rfl ulE1 (fun w M => lenV_rd h)) ?_
  refine g_v (.free rfl) rfl rfl (qt_lss rfl rfl rfl) ?_
  refine g_nil ?_
  refine gk_then (hK7 _ _ ?_)
  refine gc_cond rfl (fun hc0 => ?_) (fun hc0 => ?_)
  · try simp only [decide_eq_true_eq, decide_eq_false_iff_not, Bool.not_eq_true', Bool.not_eq_false', Bool.not_eq_eq_eq_not, Bool.not_true, Bool.not_false, ne_eq, Decidable.not_not, Classical.not_not] at hc0
    refine gc_skip ?_
    refine gk_then (hK6 _ _ ?_)
    refine gc_seq fun K8 hK8 => ?_
    refine gc_block ?_
    have hj := hs k (by omega)
    refine gc_region ?_
    refine g_v (.free rfl) rfl rfl (qt_move rfl rfl) ?_
    refine g_v (.free rfl) rfl rfl (qt_move rfl rfl) ?_
    refine g_v (.free rfl) rfl rfl (qt_move rfl rfl) ?_
    refine g_v (.free rfl) rfl rfl (qt_index rfl rfl rfl ulE1 szE1 (fun w M => lenA_rd h) (by omega) (by omega)) ?_
    refine g_v (.free rfl) rfl rfl (qt_load1 rfl rfl Try.underlying2 rfl (fun w M => mem_rd M h) (by omega) (by omega)) ?_
    refine g_v (.free rfl) rfl rfl (qt_add rfl rfl rfl (by omega)) ?_
    refine g_v (.free rfl) rfl rfl (qt_max rfl rfl rfl) ?_
    refine g_v (.free rfl) rfl rfl (qt_assign rfl rfl) ?_
    refine g_nil ?_
    refine gk_block ?_
    refine gk_then (hK8 _ _ ?_)
    refine gc_region ?_
    refine g_v (.free rfl) rfl rfl (qt_move rfl rfl) ?_
    refine g_v (.free rfl) rfl rfl (qt_add rfl rfl rfl (by omega)) ?_
    refine g_v (.free rfl) rfl rfl (qt_assign rfl rfl) ?_
    refine g_nil ?_
    rw [topF_succ]
    refine gk_then (gk_take 0 ?_)
    refine gk_sub ?hs_9 (hKL5 (k + 1) ?hi_9 ?hm_9)
    case hs_9 => exact (sub_cons rfl (sub_cons rfl (sub_cons rfl (sub_cons rfl sub_nil))))
    case hi_9 => omega
    case hm_9 => omega
  · try simp only [decide_eq_true_eq, decide_eq_false_iff_not, Bool.not_eq_true', Bool.not_eq_false', Bool.not_eq_eq_eq_not, Bool.not_true, Bool.not_false, ne_eq, Decidable.not_not, Classical.not_not] at hc0
    refine gc_exit ?_
    refine gk_then_exit ?_
    refine gk_then_exit ?_
    refine gk_block_hit ?_
    refine gk_then (hK3 _ _ ?_)
    refine gc_seq fun K10 hK10 => ?_
    refine gc_region ?_
    refine g_v (.free rfl) rfl rfl (qt_move rfl rfl) ?_
    refine g_v (.free rfl) rfl rfl (qt_assign rfl rfl) ?_
    refine g_nil ?_
    refine gk_then (hK10 _ _ ?_)
    refine gc_ret ?_
    refine ret_1 rfl rfl  (fun w M => ?_)
    obtain rfl : k = p.length := by omega
    exact ⟨rfl, M.1⟩

set_option maxHeartbeats 1000000 in
set_option maxRecDepth 100000 in
theorem hasInt_any (w : World) (v : Value) (p : List Int) (h : Rd w v p) (x : Int) :
    Calls Try.prog 62 #[v, .int .i64 x] w (RetB w (bP (x ∈ p))) := by
  obtain ⟨va, vc, rfl⟩ := rd_form h
  have hxl : p.length ≤ 17592186044415 := by obtain ⟨_, _, _, hl, _⟩ := h; exact hl
  go_enter Try.func62, Try.ntmps62
  refine gc_enter (N := 18) rfl (look_cons (k := 0) rfl (look_cons (k := 1) rfl (look_nil _))) ?_
  refine gc_seq fun K1 hK1 => ?_
  refine gc_region ?_
  refine g_v (.free rfl) rfl rfl (qt_assign rfl rfl) ?_
  refine g_nil ?_
  refine gk_then (hK1 _ _ ?_)
  refine gc_seq fun K2 hK2 => ?_
  refine gc_seq fun K3 hK3 => ?_
  refine gc_region ?_
  refine g_v (.free rfl) rfl rfl (qt_assign rfl rfl) ?_
  refine g_nil ?_
  refine gk_then (hK3 _ _ ?_)
  refine gc_block ?_
  try simp only [List.nil_append, List.cons_append, List.append_assoc, List.set_cons_succ, List.set_cons_zero]
  refine gc_loop ([(0, _), (1, _)] : Env) (fun s : Nat => (fun (k : Nat) => ([(5, .int .i64 (k : Int))] : Env)) s) (fun s : Nat => (fun (k : Nat) => ([] : List (Nat × Itm))) s) (fun s : Nat => (fun (k : Nat) => k ≤ p.length ∧ ∀ j : Nat, j < k → at0 p (j : Int) ≠ x) s) (fun s : Nat => (fun (k : Nat) => p.length - k) s) (0) (sub_cons rfl (sub_cons rfl (sub_cons rfl sub_nil))) rfl ⟨Nat.zero_le _, fun j hj => absurd hj (by omega)⟩ ?_
  rintro k hinv KL4 hKL4
  simp only [updL, List.foldl_cons, List.foldl_nil, List.set_cons_succ, List.set_cons_zero, List.cons_append, List.nil_append] at hinv hKL4 ⊢
  obtain ⟨hk, hall⟩ := hinv
  refine gc_seq fun K5 hK5 => ?_
  refine gc_seq fun K6 hK6 => ?_
  refine gc_region ?_
  refine g_v (.free rfl) rfl rfl (qt_move rfl rfl) ?_
  refine g_v (.free rfl) rfl rfl (qt_move rfl rfl) ?_
  refine g_v (.free rfl) rfl rfl (qt_len rfl rfl ulE1 (fun w M => lenV_rd h)) ?_
  refine g_v (.free rfl) rfl rfl (qt_lss rfl rfl rfl) ?_
  refine g_nil ?_
  refine gk_then (hK6 _ _ ?_)
  refine gc_cond rfl (fun hc0 => ?_) (fun hc0 => ?_)
  · try simp only [decide_eq_true_eq, decide_eq_false_iff_not, Bool.not_eq_true', Bool.not_eq_false', Bool.not_eq_eq_eq_not, Bool.not_true, Bool.not_false, ne_eq, Decidable.not_not, Classical.not_not] at hc0
    refine gc_skip ?_
    refine gk_then (hK5 _ _ ?_)
    refine gc_seq fun K7 hK7 => ?_
    refine gc_block ?_
    refine gc_seq fun K8 hK8 => ?_
    refine gc_region ?_
    refine g_v (.free rfl) rfl rfl (qt_move rfl rfl) ?_
    refine g_v (.free rfl) rfl rfl (qt_move rfl rfl) ?_
    refine g_v (.free rfl) rfl rfl (qt_index rfl rfl rfl ulE1 szE1 (fun w M => lenA_rd h) (by omega) (by omega)) ?_
    refine g_v (.free rfl) rfl rfl (qt_load1 rfl rfl Try.underlying2 rfl (fun w M => mem_rd M h) (by omega) (by omega)) ?_
    refine g_v (.free rfl) rfl rfl (qt_move rfl rfl) ?_
    refine g_v (.free rfl) rfl rfl (qt_eql rfl rfl rfl) ?_
    refine g_nil ?_
    refine gk_then (hK8 _ _ ?_)
    refine gc_cond rfl (fun hc1 => ?_) (fun hc1 => ?_)
    · try simp only [decide_eq_true_eq, decide_eq_false_iff_not, Bool.not_eq_true', Bool.not_eq_false', Bool.not_eq_eq_eq_not, Bool.not_true, Bool.not_false, ne_eq, Decidable.not_not, Classical.not_not] at hc1
      refine gc_seq fun K9 hK9 => ?_
      refine gc_region ?_
      refine g_v (.free rfl) rfl rfl (qt_assign rfl rfl) ?_
      refine g_nil ?_
      refine gk_then (hK9 _ _ ?_)
      refine gc_ret ?_
      refine gk_block_ret ?_
      refine gk_then_ret ?_
      refine gk_then_ret ?_
      refine gk_block_ret ?_
      refine gk_then_ret ?_
      refine ret_1 rfl rfl  (fun w M => ?_)
      rw [bP_t (show x ∈ p by rw [← hc1]; exact at0_memC (by omega))]; exact ⟨rfl, M.1⟩
    · try simp only [decide_eq_true_eq, decide_eq_false_iff_not, Bool.not_eq_true', Bool.not_eq_false', Bool.not_eq_eq_eq_not, Bool.not_true, Bool.not_false, ne_eq, Decidable.not_not, Classical.not_not] at hc1
      refine gc_skip ?_
      refine gk_block ?_
      refine gk_then (hK7 _ _ ?_)
      refine gc_region ?_
      refine g_v (.free rfl) rfl rfl (qt_move rfl rfl) ?_
      refine g_v (.free rfl) rfl rfl (qt_add rfl rfl rfl (by omega)) ?_
      refine g_v (.free rfl) rfl rfl (qt_assign rfl rfl) ?_
      refine g_nil ?_
      refine gk_then (gk_take 0 ?_)
      refine gk_sub ?hs_10 (hKL4 (k + 1) ?hi_10 ?hm_10)
      case hs_10 => exact (sub_cons rfl (sub_cons rfl (sub_cons rfl sub_nil)))
      case hi_10 => exact ⟨by omega, all_next hall (by assumption)⟩
      case hm_10 => omega
  · try simp only [decide_eq_true_eq, decide_eq_false_iff_not, Bool.not_eq_true', Bool.not_eq_false', Bool.not_eq_eq_eq_not, Bool.not_true, Bool.not_false, ne_eq, Decidable.not_not, Classical.not_not] at hc0
    refine gc_exit ?_
    refine gk_then_exit ?_
    refine gk_then_exit ?_
    refine gk_block_hit ?_
    refine gk_then (hK2 _ _ ?_)
    refine gc_seq fun K11 hK11 => ?_
    refine gc_region ?_
    refine g_v (.free rfl) rfl rfl (qt_assign rfl rfl) ?_
    refine g_nil ?_
    refine gk_then (hK11 _ _ ?_)
    refine gc_ret ?_
    refine ret_1 rfl rfl  (fun w M => ?_)
    obtain rfl : k = p.length := by omega
    rw [bP_f (fun hm : x ∈ p => by obtain ⟨j, hj, he⟩ := List.getElem_of_mem hm; exact hall j hj (by rw [at0_nat, List.getD_eq_getElem?_getD, List.getElem?_eq_getElem hj]; exact he))]; exact ⟨rfl, M.1⟩


theorem eql_hyps {n : Int} {f g : List Int} (hz : codeTwo n f g = 0) : f.length = g.length ∧ f.length ≤ 256 ∧ 0 ≤ n ∧ n ≤ 256 := by
  obtain ⟨hmf, hmg, hl⟩ := codeTwo_maps hz
  exact ⟨hl, hmf.2.1, hmf.1.1, hmf.1.2⟩
theorem eql_at {f g : List Int} {k : Nat} (h : k < f.length) : bP ((k : Int) ∈ idxs (eqP f g) f.length) = decide (at0 f (k : Int) = at0 g (k : Int)) := by
  rw [← bP_dec]
  refine bP_congr ?_
  rw [idxs_mem, at0_nat, at0_nat]
  exact ⟨fun hh => by simpa [eqP] using hh.2, fun hh => ⟨h, by simpa [eqP] using hh⟩⟩
theorem coeq_rng {n : Int} {f g : List Int} (hz : codeTwo n f g = 0) : ∀ j : Nat, j < (clsOf (implL n.toNat (prs f g f.length))).length → 0 ≤ at0 (clsOf (implL n.toNat (prs f g f.length))) (j : Int) ∧ at0 (clsOf (implL n.toNat (prs f g f.length))) (j : Int) < 1000 := fun j hj => by
  have h := eql_hyps hz
  rw [clsOf_len] at hj
  have := cls_nat (implL n.toNat (prs f g f.length)) hj
  rw [implL_len] at this
  omega

end Go.Proofs.Ytfnneogadciimab
