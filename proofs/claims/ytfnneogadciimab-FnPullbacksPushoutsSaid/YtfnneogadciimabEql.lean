
/- The law of equalizers on drawn maps: both maps agree just on their equalizer and become equal behind their coequalizer: its walk. -/
import Derived.Test.YtfnneogadciimabCong
import Derived.Test.YtfnneogadciimabAlike
import Derived.Test.YtfnneogadciimabEqual
import Derived.Test.YtfnneogadciimabThM
set_option linter.unusedSimpArgs false
set_option linter.unusedVariables false
set_option linter.unusedSectionVars false
namespace Go.Proofs.Ytfnneogadciimab
open Go.RowKit


theorem two_loc (y z : Value) (xs ys : List Int) : Loc (fun w S => Own1 y xs w S ∧ Own1 z ys w S) where
  keep hs ha h := ⟨(own1_loc y xs).keep hs ha h.1, (own1_loc z ys).keep hs ha h.2⟩
/-- Two lists of the call's own that nothing writes. -/
def twoI (y z : Value) (xs ys : List Int) : Itm := ⟨_, two_loc y z xs ys⟩
section
variable {w0 : World} {is : List Itm} {ops : Array Oper} {Q : Exit → Act → World → Prop} {o : Oper} {rest : List Oper} {N : Frm} {e : Env} {v : Value} {d : Nat} {K : Act → World → Prop} {f : FuncId} {fn : Func} {ags : Array Operand} {ts : Array TypeId} {vs : List Value}
theorem two_rd1 {w : World} {n : Nat} {y z : Value} {xs ys : List Int} (M : Mem w0 w is) (h : is[n]? = some (twoI y z xs ys)) : Rd w y xs := by
  obtain ⟨S, _, hb⟩ := mem_get M h
  exact (hb.1 : Own1 y xs w S).rd
theorem two_rd2 {w : World} {n : Nat} {y z : Value} {xs ys : List Int} (M : Mem w0 w is) (h : is[n]? = some (twoI y z xs ys)) : Rd w z ys := by
  obtain ⟨S, _, hb⟩ := mem_get M h
  exact (hb.2 : Own1 z ys w S).rd
theorem go_callTwo (hd : o.dst = some d) (hN : Nat.blt d N = true) (hop : o.op = .call { callee := .value (.func f), args := ags, argTypes := ts }) (hfn : Try.prog.funcs[f]? = some fn) (hb : fn.body.isNone = false) (hn : (fn.name == "runtime.NumGoroutine") = false)
    (hargs : evoL e ags.toList = some vs) (hc : ∀ w, Mem w0 w is → Calls Try.prog f vs.toArray w (fun e w' => ∃ (n : Int) (xs ys : List Int) (y z : Value), e = .returned (.tuple #[.int .i64 n, y, z]) ∧ Sl w' w.heap.size y xs ∧ xs.length ≤ 301 ∧ Sl w' w.heap.size z ys ∧ ys.length ≤ 301 ∧ CountP n ∧ Below w.heap.size w w'))
    (hk : ∀ (n : Int) (xs ys : List Int) (a : Option Addr) (k : Nat) (b : Option Addr) (j : Nat), xs.length ≤ 301 → ys.length ≤ 301 → CountP n → GK w0 (is ++ [twoI (.slice a xs.length k) (.slice b ys.length j) xs ys]) N K ((d, .tuple #[.int .i64 n, .slice a xs.length k, .slice b ys.length j]) :: e)) : GO w0 is N o e Q K := by
  intro w a M F
  refine go_call hd hN F hop hfn hb hn hargs (hc w M) fun e' w' hR => ?_
  obtain ⟨n, xs, ys, y, z, rfl, h1, l1, h2, l2, hcn, hbl⟩ := hR
  obtain ⟨ya, yc, rfl⟩ := rd_form h1.rd
  obtain ⟨za, zc, rfl⟩ := rd_form h2.rd
  exact ⟨_, rfl, fun a F => hk n xs ys ya yc za zc l1 l2 hcn w' a (mem_new M hbl ⟨own1_of h1, own1_of h2⟩) F⟩
theorem qt_max {x y : Operand} {t t' : TypeId} {a b : Int} (hop : o.op = .call { callee := .builtin .max, args := #[x, y], argTypes := #[t, t'] }) (hx : evo e x = some (.int .i64 a)) (hy : evo e y = some (.int .i64 b)) : QV w0 is o e (.int .i64 (max a b)) :=
  fun w ac M F => by
    have hx := F _ _ hx; have hy := F _ _ hy
    simp [execOp, hop, resolve, invoke, builtin, Builtin.max_, Builtin.max2, hx, hy, Sem.run_bind, Sem.run_pure, Result.andThen_ok, go_sem]
    split <;> omega
theorem g_skipU {j t : Nat} {b : Bool} (h : o.guard = some (j, b)) (hj : (ops[j]?).bind (·.dst) = some t) (ht : look e t = some undef) (hd : o.dst = some d) (hN : Nat.blt d N = true) (hk : G w0 is N ops Q rest ((d, undef) :: e)) : G w0 is N ops Q (o :: rest) e := by
  intro w a M F R
  unfold wpListIn
  have hw : Region.wanted o (yielded ops a.tmps) = false := by
    simp [Region.wanted, h, yielded, hj, F.at_ t _ ht, undef]
  rw [if_neg (by simp [hw]), hd]
  exact ⟨fun _ _ => trivial, hk w _ M (fit_put F hN) R.r⟩
end
/-! ### The lists -/
def topF (p : List Int) : Nat → Int
  | 0 => 0
  | k + 1 => max (topF p k) (at0 p (k : Int) + 1)
theorem topF_succ (p : List Int) (k : Nat) : max (topF p k) (at0 p (k : Int) + 1) = topF p (k + 1) := rfl
theorem topF_ge (p : List Int) : ∀ k, 0 ≤ topF p k ∧ ∀ j : Nat, j < k → at0 p (j : Int) < topF p k
  | 0 => ⟨Int.le_refl _, fun j hj => absurd hj (by omega)⟩
  | k + 1 => by
    have ih := topF_ge p k
    show 0 ≤ max _ _ ∧ ∀ j : Nat, j < k + 1 → _ < max _ _
    refine ⟨by omega, fun j hj => ?_⟩
    by_cases h : j < k
    · have := ih.2 j h; omega
    · obtain rfl : j = k := by omega
      omega
theorem topF_le {p : List Int} {b : Int} (hb : 0 ≤ b) (h : ∀ j : Nat, j < p.length → at0 p (j : Int) < b) : ∀ k, k ≤ p.length → topF p k ≤ b
  | 0, _ => hb
  | k + 1, hk => by
    have ih := topF_le hb h k (by omega)
    have := h k (by omega)
    show max _ _ ≤ b
    omega
theorem cls_nat (l : List Int) {k : Nat} (hk : k < l.length) : 0 ≤ at0 (clsOf l) (k : Int) ∧ at0 (clsOf l) (k : Int) < l.length := by
  rw [at0_nat, clsOf_getD hk]
  have h1 := List.idxOf_le_length (a := l.getD k 0) (l := seenOf (l.take k))
  have h2 := seenOf_len (l.take k)
  have h3 : (l.take k).length = k := by simp; omega
  omega
/-- What a coequalizer has. -/
theorem coeq_facts {n : Int} {f g : List Int} (hz : codeTwo n f g = 0) : let m := clsOf (implL n.toNat (prs f g f.length))
    fThenMaps n f (topF m m.length) m = (thenL f m, 0) ∧ fThenMaps n g (topF m m.length) m = (thenL f m, 0) := by
  intro m
  obtain ⟨hmf, hmg, hl⟩ := codeTwo_maps hz
  have hn0 := hmf.1.1; have hn1 := hmf.1.2
  have hml : m.length = n.toNat := by show (clsOf _).length = _; rw [clsOf_len, implL_len]
  have hmi : ∀ k : Nat, k < m.length → 0 ≤ at0 m (k : Int) ∧ at0 m (k : Int) < m.length := fun k hk => by
    have := cls_nat (implL n.toNat (prs f g f.length)) (k := k) (by rw [implL_len]; omega)
    rw [implL_len] at this
    exact ⟨this.1, by rw [hml]; exact this.2⟩
  have htop := topF_ge m m.length
  have htl := topF_le (p := m) (b := 256) (by omega) (fun j hj => by have := (hmi j hj).2; omega) m.length (Nat.le_refl _)
  have hS : SizeP (topF m m.length) := ⟨htop.1, htl⟩
  have hM : MapP (topF m m.length) m := by
    refine ⟨hS, by omega, fun x hx => ?_⟩
    obtain ⟨j, hj, rfl⟩ := List.getElem_of_mem hx
    have e : m[j] = at0 m (j : Int) := by rw [at0_nat, List.getD_eq_getElem?_getD, List.getElem?_eq_getElem hj]; rfl
    rw [e]; exact ⟨(hmi j hj).1, htop.2 j hj⟩
  have hlen : (m.length : Int) = n := by omega
  have hT : ∀ h : List Int, MapP n h → fThenMaps n h (topF m m.length) m = (thenL h m, 0) := fun h hh => by
    unfold fThenMaps; rw [if_pos ⟨hmf.1, hS⟩, if_pos ⟨hh, hM, hlen⟩]
  refine ⟨hT f hmf, ?_⟩
  rw [hT g hmg]
  refine Prod.ext ?_ rfl
  have hps := prs_pairs hmf.2.2 hmg.2.2 hl
  have hmc : m = clsOf (specL n.toNat (prs f g f.length)) := (join_cls hps).symm
  have hk := ker_cls2 (specL n.toNat (prs f g f.length))
  rw [← hmc] at hk
  refine List.ext_getElem (by simp [thenL, hl]) fun j h1 h2 => ?_
  simp only [thenL, List.length_map] at h1 h2
  simp only [thenL, List.getElem_map]
  have hq : [f.getD j 0, g.getD j 0] ∈ prs f g f.length := by simp only [prs, List.mem_map, List.mem_range]; exact ⟨j, h2, rfl⟩
  have hr := relL_has hps hq
  have hrng := pair_range (hps _ hq)
  have := (hk.2 (pa [f.getD j 0, g.getD j 0]) (pb [f.getD j 0, g.getD j 0]) (by rw [specL_len]; exact hrng.1) (by rw [specL_len]; exact hrng.2.1)).1 hr
  have e1 : f[j] = f.getD j 0 := by rw [List.getD_eq_getElem?_getD, List.getElem?_eq_getElem h2]; rfl
  have e2 : g[j] = g.getD j 0 := by rw [List.getD_eq_getElem?_getD, List.getElem?_eq_getElem h1]; rfl
  rw [e1, e2]
  exact this.symm
theorem idxs_mem {p : Nat → Bool} {k : Nat} {x : Nat} : ((x : Int) ∈ idxs p k) ↔ x < k ∧ p x = true := by
  simp only [idxs, List.mem_map, List.mem_filter, List.mem_range]
  constructor
  · rintro ⟨a, h, e⟩
    obtain rfl : a = x := by omega
    exact h
  · intro h; exact ⟨x, h, rfl⟩


set_option maxHeartbeats 800000 in
set_option maxRecDepth 100000 in
theorem drawCoeq_any (w : World) (v : Value) (h : InB w v) :
    Calls Try.prog 57 #[v] w (fun e w' => ∃ (n : Int) (xs ys : List Int) (y z : Value), e = .returned (.tuple #[.int .i64 n, y, z]) ∧ Sl w' w.heap.size y xs ∧ xs.length ≤ 301 ∧ Sl w' w.heap.size z ys ∧ ys.length ≤ 301 ∧ CountP n ∧ Below w.heap.size w w') := by
  go_enter Try.func57, Try.ntmps57
  go_wp2_with fail
  refine (two_any _ _ h).mono ?_; rintro e w1 ⟨n, xs, ys, y, z, rfl, hs, hl, hs2, hl2, hn, hb⟩
  go_wp2
  go_ret3
  exact ⟨n, xs, ys, y, z, rfl, hs, hl, hs2, hl2, hn, hb⟩
theorem bigN_any (w : World) (a : Option Addr) (len cap : Nat) (hl : len ≤ 9223372036854775807) : Calls Try.prog 38 #[.slice a len cap] w (RetB w (decide (4096 < (len : Int)))) := by
  go_enter Try.func38, Try.ntmps38
  go_wp2
  go_ret
  exact ⟨by simp, (Below.refl _ _)⟩

set_option maxHeartbeats 1000000 in
set_option maxRecDepth 100000 in
theorem top5_any (w : World) (v : Value) (p : List Int) (h : Rd w v p) (hs : ∀ j : Nat, j < p.length → 0 ≤ at0 p (j : Int) ∧ at0 p (j : Int) < 1000) :
    Calls Try.prog 61 #[v] w (RetI w (topF p p.length)) := by
  obtain ⟨va, vc, rfl⟩ := rd_form h
  have hxl : p.length ≤ 17592186044415 := by obtain ⟨_, _, _, hl, _⟩ := h; exact hl
  go_enter Try.func61, Try.ntmps61
  refine gc_enter (N := 19) rfl (look_cons (k := 0) rfl (look_nil _)) ?_
  refine gc_seq fun K1 hK1 => ?_
  refine gc_region ?_
  refine g_v (.free rfl) rfl rfl (qt_assign rfl rfl) ?_
  refine g_nil ?_
  refine gk_then (hK1 _ _ ?_)
  refine gc_seq fun K2 hK2 => ?_
  refine gc_region ?_
  refine g_v (.free rfl) rfl rfl (qt_assign rfl rfl) ?_
  refine g_nil ?_
  refine gk_then (hK2 _ _ ?_)
  refine gc_seq fun K3 hK3 => ?_
  refine gc_seq fun K4 hK4 => ?_
  refine gc_region ?_
  refine g_v (.free rfl) rfl rfl (qt_assign rfl rfl) ?_
  refine g_nil ?_
  refine gk_then (hK4 _ _ ?_)
  refine gc_block ?_
  try simp only [List.nil_append, List.cons_append, List.append_assoc, List.set_cons_succ, List.set_cons_zero]
  refine gc_loop ([(0, _), (2, _)] : Env) (fun s : Nat => (fun (k : Nat) => ([(3, .int .i64 (topF p k)), (4, .int .i64 (k : Int))] : Env)) s) (fun s : Nat => (fun (k : Nat) => ([] : List (Nat × Itm))) s) (fun s : Nat => (fun (k : Nat) => k ≤ p.length) s) (fun s : Nat => (fun (k : Nat) => p.length - k) s) (0) (sub_cons rfl (sub_cons rfl (sub_cons rfl (sub_cons rfl sub_nil)))) rfl (Nat.zero_le _) ?_
  rintro k hinv KL5 hKL5
  simp only [updL, List.foldl_cons, List.foldl_nil, List.set_cons_succ, List.set_cons_zero, List.cons_append, List.nil_append] at hinv hKL5 ⊢
  have hk := hinv
  refine gc_seq fun K6 hK6 => ?_
  refine gc_seq fun K7 hK7 => ?_
  refine gc_region ?_
  refine g_v (.free rfl) rfl rfl (qt_move rfl rfl) ?_
  refine g_v (.free rfl) rfl rfl (qt_move rfl rfl) ?_
  refine g_v (.free rfl) rfl rfl (qt_len rfl rfl ulE1 (fun w M => lenV_rd h)) ?_
  refine g_v (.free rfl) rfl rfl (qt_lss rfl rfl rfl) ?_
  refine g_nil ?_
  refine gk_then (hK7 _ _ ?_)
  refine gc_cond rfl (fun hc0 => ?_) (fun hc0 => ?_)
  · try simp only [decide_eq_true_eq, decide_eq_false_iff_not, Bool.not_eq_true', Bool.not_eq_false', Bool.not_eq_eq_eq_not, Bool.not_true, Bool.not_false, ne_eq, Decidable.not_not, Classical.not_not] at hc0
    refine gc_skip ?_
    refine gk_then (hK6 _ _ ?_)
    refine gc_seq fun K8 hK8 => ?_
    refine gc_block ?_
    have hj := hs k (by omega)
    refine gc_region ?_
    refine g_v (.free rfl) rfl rfl (qt_move rfl rfl) ?_
    refine g_v (.free rfl) rfl rfl (qt_move rfl rfl) ?_
    refine g_v (.free rfl) rfl rfl (qt_move rfl rfl) ?_
    refine g_v (.free rfl) rfl rfl (qt_index rfl rfl rfl ulE1 szE1 (fun w M => lenA_rd h) (by omega) (by omega)) ?_
    refine g_v (.free rfl) rfl rfl (qt_load1 rfl rfl Try.underlying2 rfl (fun w M => mem_rd M h) (by omega) (by omega)) ?_
    refine g_v (.free rfl) rfl rfl (qt_add rfl rfl rfl (by omega)) ?_
    refine g_v (.free rfl) rfl rfl (qt_max rfl rfl rfl) ?_
    refine g_v (.free rfl) rfl rfl (qt_assign rfl rfl) ?_
    refine g_nil ?_
    refine gk_block ?_
    refine gk_then (hK8 _ _ ?_)
    refine gc_region ?_
    refine g_v (.free rfl) rfl rfl (qt_move rfl rfl) ?_
    refine g_v (.free rfl) rfl rfl (qt_add rfl rfl rfl (by omega)) ?_
    refine g_v (.free rfl) rfl rfl (qt_assign rfl rfl) ?_
    refine g_nil ?_
    rw [topF_succ]
    refine gk_then (gk_take 0 ?_)
    refine gk_sub ?hs_9 (hKL5 (k + 1) ?hi_9 ?hm_9)
    case hs_9 => exact (sub_cons rfl (sub_cons rfl (sub_cons rfl (sub_cons rfl sub_nil))))
    case hi_9 => omega
    case hm_9 => omega
  · try simp only [decide_eq_true_eq, decide_eq_false_iff_not, Bool.not_eq_true', Bool.not_eq_false', Bool.not_eq_eq_eq_not, Bool.not_true, Bool.not_false, ne_eq, Decidable.not_not, Classical.not_not] at hc0
    refine gc_exit ?_
    refine gk_then_exit ?_
    refine gk_then_exit ?_
    refine gk_block_hit ?_
    refine gk_then (hK3 _ _ ?_)
    refine gc_seq fun K10 hK10 => ?_
    refine gc_region ?_
    refine g_v (.free rfl) rfl rfl (qt_move rfl rfl) ?_
    refine g_v (.free rfl) rfl rfl (qt_assign rfl rfl) ?_
    refine g_nil ?_
    refine gk_then (hK10 _ _ ?_)
    refine gc_ret ?_
    refine ret_1 rfl rfl  (fun w M => ?_)
    obtain rfl : k = p.length := by omega
    exact ⟨rfl, M.1⟩

set_option maxHeartbeats 1000000 in
set_option maxRecDepth 100000 in
theorem hasInt_any (w : World) (v : Value) (p : List Int) (h : Rd w v p) (x : Int) :
    Calls Try.prog 62 #[v, .int .i64 x] w (RetB w (bP (x ∈ p))) := by
  obtain ⟨va, vc, rfl⟩ := rd_form h
  have hxl : p.length ≤ 17592186044415 := by obtain ⟨_, _, _, hl, _⟩ := h; exact hl
  go_enter Try.func62, Try.ntmps62
  refine gc_enter (N := 18) rfl (look_cons (k := 0) rfl (look_cons (k := 1) rfl (look_nil _))) ?_
  refine gc_seq fun K1 hK1 => ?_
  refine gc_region ?_
  refine g_v (.free rfl) rfl rfl (qt_assign rfl rfl) ?_
  refine g_nil ?_
  refine gk_then (hK1 _ _ ?_)
  refine gc_seq fun K2 hK2 => ?_
  refine gc_seq fun K3 hK3 => ?_
  refine gc_region ?_
  refine g_v (.free rfl) rfl rfl (qt_assign rfl rfl) ?_
  refine g_nil ?_
  refine gk_then (hK3 _ _ ?_)
  refine gc_block ?_
  try simp only [List.nil_append, List.cons_append, List.append_assoc, List.set_cons_succ, List.set_cons_zero]
  refine gc_loop ([(0, _), (1, _)] : Env) (fun s : Nat => (fun (k : Nat) => ([(5, .int .i64 (k : Int))] : Env)) s) (fun s : Nat => (fun (k : Nat) => ([] : List (Nat × Itm))) s) (fun s : Nat => (fun (k : Nat) => k ≤ p.length ∧ ∀ j : Nat, j < k → at0 p (j : Int) ≠ x) s) (fun s : Nat => (fun (k : Nat) => p.length - k) s) (0) (sub_cons rfl (sub_cons rfl (sub_cons rfl sub_nil))) rfl ⟨Nat.zero_le _, fun j hj => absurd hj (by omega)⟩ ?_
  rintro k hinv KL4 hKL4
  simp only [updL, List.foldl_cons, List.foldl_nil, List.set_cons_succ, List.set_cons_zero, List.cons_append, List.nil_append] at hinv hKL4 ⊢
  obtain ⟨hk, hall⟩ := hinv
  refine gc_seq fun K5 hK5 => ?_
  refine gc_seq fun K6 hK6 => ?_
  refine gc_region ?_
  refine g_v (.free rfl) rfl rfl (qt_move rfl rfl) ?_
  refine g_v (.free rfl) rfl rfl (qt_move rfl rfl) ?_
  refine g_v (.free rfl) rfl rfl (qt_len rfl rfl ulE1 (fun w M => lenV_rd h)) ?_
  refine g_v (.free rfl) rfl rfl (qt_lss rfl rfl rfl) ?_
  refine g_nil ?_
  refine gk_then (hK6 _ _ ?_)
  refine gc_cond rfl (fun hc0 => ?_) (fun hc0 => ?_)
  · try simp only [decide_eq_true_eq, decide_eq_false_iff_not, Bool.not_eq_true', Bool.not_eq_false', Bool.not_eq_eq_eq_not, Bool.not_true, Bool.not_false, ne_eq, Decidable.not_not, Classical.not_not] at hc0
    refine gc_skip ?_
    refine gk_then (hK5 _ _ ?_)
    refine gc_seq fun K7 hK7 => ?_
    refine gc_block ?_
    refine gc_seq fun K8 hK8 => ?_
    refine gc_region ?_
    refine g_v (.free rfl) rfl rfl (qt_move rfl rfl) ?_
    refine g_v (.free rfl) rfl rfl (qt_move rfl rfl) ?_
    refine g_v (.free rfl) rfl rfl (qt_index rfl rfl rfl ulE1 szE1 (fun w M => lenA_rd h) (by omega) (by omega)) ?_
    refine g_v (.free rfl) rfl rfl (qt_load1 rfl rfl Try.underlying2 rfl (fun w M => mem_rd M h) (by omega) (by omega)) ?_
    refine g_v (.free rfl) rfl rfl (qt_move rfl rfl) ?_
    refine g_v (.free rfl) rfl rfl (qt_eql rfl rfl rfl) ?_
    refine g_nil ?_
    refine gk_then (hK8 _ _ ?_)
    refine gc_cond rfl (fun hc1 => ?_) (fun hc1 => ?_)
    · try simp only [decide_eq_true_eq, decide_eq_false_iff_not, Bool.not_eq_true', Bool.not_eq_false', Bool.not_eq_eq_eq_not, Bool.not_true, Bool.not_false, ne_eq, Decidable.not_not, Classical.not_not] at hc1
      refine gc_seq fun K9 hK9 => ?_
      refine gc_region ?_
      refine g_v (.free rfl) rfl rfl (qt_assign rfl rfl) ?_
      refine g_nil ?_
      refine gk_then (hK9 _ _ ?_)
      refine gc_ret ?_
      refine gk_block_ret ?_
      refine gk_then_ret ?_
      refine gk_then_ret ?_
      refine gk_block_ret ?_
      refine gk_then_ret ?_
      refine ret_1 rfl rfl  (fun w M => ?_)
      rw [bP_t (show x ∈ p by rw [← hc1]; exact at0_memC (by omega))]; exact ⟨rfl, M.1⟩
    · try simp only [decide_eq_true_eq, decide_eq_false_iff_not, Bool.not_eq_true', Bool.not_eq_false', Bool.not_eq_eq_eq_not, Bool.not_true, Bool.not_false, ne_eq, Decidable.not_not, Classical.not_not] at hc1
      refine gc_skip ?_
      refine gk_block ?_
      refine gk_then (hK7 _ _ ?_)
      refine gc_region ?_
      refine g_v (.free rfl) rfl rfl (qt_move rfl rfl) ?_
      refine g_v (.free rfl) rfl rfl (qt_add rfl rfl rfl (by omega)) ?_
      refine g_v (.free rfl) rfl rfl (qt_assign rfl rfl) ?_
      refine g_nil ?_
      refine gk_then (gk_take 0 ?_)
      refine gk_sub ?hs_10 (hKL4 (k + 1) ?hi_10 ?hm_10)
      case hs_10 => exact (sub_cons rfl (sub_cons rfl (sub_cons rfl sub_nil)))
      case hi_10 => exact ⟨by omega, all_next hall (by assumption)⟩
      case hm_10 => omega
  · try simp only [decide_eq_true_eq, decide_eq_false_iff_not, Bool.not_eq_true', Bool.not_eq_false', Bool.not_eq_eq_eq_not, Bool.not_true, Bool.not_false, ne_eq, Decidable.not_not, Classical.not_not] at hc0
    refine gc_exit ?_
    refine gk_then_exit ?_
    refine gk_then_exit ?_
    refine gk_block_hit ?_
    refine gk_then (hK2 _ _ ?_)
    refine gc_seq fun K11 hK11 => ?_
    refine gc_region ?_
    refine g_v (.free rfl) rfl rfl (qt_assign rfl rfl) ?_
    refine g_nil ?_
    refine gk_then (hK11 _ _ ?_)
    refine gc_ret ?_
    refine ret_1 rfl rfl  (fun w M => ?_)
    obtain rfl : k = p.length := by omega
    rw [bP_f (fun hm : x ∈ p => by obtain ⟨j, hj, he⟩ := List.getElem_of_mem hm; exact hall j hj (by rw [at0_nat, List.getD_eq_getElem?_getD, List.getElem?_eq_getElem hj]; exact he))]; exact ⟨rfl, M.1⟩


theorem eql_hyps {n : Int} {f g : List Int} (hz : codeTwo n f g = 0) : f.length = g.length ∧ f.length ≤ 256 ∧ 0 ≤ n ∧ n ≤ 256 := by
  obtain ⟨hmf, hmg, hl⟩ := codeTwo_maps hz
  exact ⟨hl, hmf.2.1, hmf.1.1, hmf.1.2⟩
theorem eql_at {f g : List Int} {k : Nat} (h : k < f.length) : bP ((k : Int) ∈ idxs (eqP f g) f.length) = decide (at0 f (k : Int) = at0 g (k : Int)) := by
  rw [← bP_dec]
  refine bP_congr ?_
  rw [idxs_mem, at0_nat, at0_nat]
  exact ⟨fun hh => by simpa [eqP] using hh.2, fun hh => ⟨h, by simpa [eqP] using hh⟩⟩
theorem coeq_rng {n : Int} {f g : List Int} (hz : codeTwo n f g = 0) : ∀ j : Nat, j < (clsOf (implL n.toNat (prs f g f.length))).length → 0 ≤ at0 (clsOf (implL n.toNat (prs f g f.length))) (j : Int) ∧ at0 (clsOf (implL n.toNat (prs f g f.length))) (j : Int) < 1000 := fun j hj => by
  have h := eql_hyps hz
  rw [clsOf_len] at hj
  have := cls_nat (implL n.toNat (prs f g f.length)) hj
  rw [implL_len] at this
  omega

set_option maxHeartbeats 4000000 in
set_option maxRecDepth 100000 in
theorem eqlWalk (w : World) (ca : Option Addr) (clen ccap : Nat) (h : InB w (.slice ca clen ccap)) (hcl : clen ≤ 9223372036854775807) :
    Calls Try.prog 12 #[.slice ca clen ccap] w (RetB w true) := by
  go_enter Try.func12, Try.ntmps12
  refine gc_enter (N := 130) rfl (look_cons (k := 0) rfl (look_nil _)) ?_
  refine gc_seq fun K1 hK1 => ?_
  refine gc_region ?_
  refine g_v (.free rfl) rfl rfl (qt_assign rfl rfl) ?_
  refine g_nil ?_
  refine gk_then (hK1 _ _ ?_)
  refine gc_seq fun K2 hK2 => ?_
  refine gc_seq fun K3 hK3 => ?_
  refine gc_region ?_
  refine g_v (.free rfl) rfl rfl (qt_move rfl rfl) ?_
  refine g_q (.free rfl) rfl rfl (qt_call rfl Try.func38 rfl (by decide) rfl (fun w M => bigN_any w _ _ _ (by first | assumption | omega))) ?_
  refine g_nil ?_
  refine gk_then (hK3 _ _ ?_)
  refine gc_cond rfl (fun hc0 => ?_) (fun hc0 => ?_)
  · try simp only [decide_eq_true_eq, decide_eq_false_iff_not, Bool.not_eq_true', Bool.not_eq_false', Bool.not_eq_eq_eq_not, Bool.not_true, Bool.not_false, ne_eq, Decidable.not_not, Classical.not_not] at hc0
    refine gc_seq fun K4 hK4 => ?_
    refine gc_region ?_
    refine g_v (.free rfl) rfl rfl (qt_assign rfl rfl) ?_
    refine g_nil ?_
    refine gk_then (hK4 _ _ ?_)
    refine gc_ret ?_
    refine gk_then_ret ?_
    refine ret_1 rfl rfl  (fun w M => ?_)
    exact ⟨rfl, M.1⟩
  · try simp only [decide_eq_true_eq, decide_eq_false_iff_not, Bool.not_eq_true', Bool.not_eq_false', Bool.not_eq_eq_eq_not, Bool.not_true, Bool.not_false, ne_eq, Decidable.not_not, Classical.not_not] at hc0
    refine gc_skip ?_
    refine gk_then (hK2 _ _ ?_)
    refine gc_seq fun K5 hK5 => ?_
    refine gc_region ?_
    refine g_v (.free rfl) rfl rfl (qt_move rfl rfl) ?_
    refine g_op (.free rfl) fun K7 hK7 => ?_
    refine go_callTwo rfl rfl rfl Try.func57 rfl (by decide) rfl (fun w M => drawCoeq_any w _ (inb_below M.1 h)) ?_
    intro n f g fa fk ga gk hlf hlg hcn
    refine hK7 _ _ ?_
    refine g_v (.free rfl) rfl rfl (qt_move rfl rfl) ?_
    refine g_v (.free rfl) rfl rfl (qt_extract rfl rfl rfl) ?_
    refine g_v (.free rfl) rfl rfl (qt_extract rfl rfl rfl) ?_
    refine g_v (.free rfl) rfl rfl (qt_extract rfl rfl rfl) ?_
    refine g_v (.free rfl) rfl rfl (qt_assign rfl rfl) ?_
    refine g_v (.free rfl) rfl rfl (qt_assign rfl rfl) ?_
    refine g_v (.free rfl) rfl rfl (qt_assign rfl rfl) ?_
    refine g_nil ?_
    refine gk_then (hK5 _ _ ?_)
    refine gc_seq fun K8 hK8 => ?_
    obtain ⟨m, r1, eq, r2, hCm, hEm⟩ : ∃ m r1 eq r2, fCoequalizerOf n f g = (m, r1) ∧ fEqualizerOf n f g = (eq, r2) := ⟨_, _, _, _, rfl, rfl⟩
    have HCi := fun (w : World) (v u : Value) (h1 : Rd w v f) (h2 : Rd w u g) => impl_CoequalizerOf w n v f u g h1 h2
    simp only [hCm] at HCi
    have HCs := fun (w : World) (v u : Value) (h1 : Rd w v f) (h2 : Rd w u g) => spec_CoequalizerOf w n v f u g h1 h2
    simp only [hCm] at HCs
    have HEi := fun (w : World) (v u : Value) (h1 : Rd w v f) (h2 : Rd w u g) => impl_EqualizerOf w n v f u g h1 h2
    simp only [hEm] at HEi
    have HEs := fun (w : World) (v u : Value) (h1 : Rd w v f) (h2 : Rd w u g) => spec_EqualizerOf w n v f u g h1 h2
    simp only [hEm] at HEs
    refine gc_region ?_
    refine g_v (.free rfl) rfl rfl (qt_move rfl rfl) ?_
    refine g_v (.free rfl) rfl rfl (qt_move rfl rfl) ?_
    refine g_v (.free rfl) rfl rfl (qt_move rfl rfl) ?_
    refine g_op (.free rfl) fun K10 hK10 => ?_
    refine go_callLI rfl rfl rfl Try.func56 rfl (by decide) rfl (fun w M => HCi w _ _ (two_rd1 (n := 0) M rfl) (two_rd2 (n := 0) M rfl)) ?_
    intro va9 vc9
    refine hK10 _ _ ?_
    refine g_v (.free rfl) rfl rfl (qt_move rfl rfl) ?_
    refine g_v (.free rfl) rfl rfl (qt_extract rfl rfl rfl) ?_
    refine g_v (.free rfl) rfl rfl (qt_extract rfl rfl rfl) ?_
    refine g_v (.free rfl) rfl rfl (qt_assign rfl rfl) ?_
    refine g_v (.free rfl) rfl rfl (qt_assign rfl rfl) ?_
    refine g_nil ?_
    refine gk_then (hK8 _ _ ?_)
    refine gc_seq fun K11 hK11 => ?_
    refine gc_region ?_
    refine g_v (.free rfl) rfl rfl (qt_move rfl rfl) ?_
    refine g_v (.free rfl) rfl rfl (qt_move rfl rfl) ?_
    refine g_v (.free rfl) rfl rfl (qt_move rfl rfl) ?_
    refine g_op (.free rfl) fun K13 hK13 => ?_
    refine go_callLI rfl rfl rfl Try.func58 rfl (by decide) rfl (fun w M => HCs w _ _ (two_rd1 (n := 0) M rfl) (two_rd2 (n := 0) M rfl)) ?_
    intro va12 vc12
    refine hK13 _ _ ?_
    refine g_v (.free rfl) rfl rfl (qt_move rfl rfl) ?_
    refine g_v (.free rfl) rfl rfl (qt_extract rfl rfl rfl) ?_
    refine g_v (.free rfl) rfl rfl (qt_extract rfl rfl rfl) ?_
    refine g_v (.free rfl) rfl rfl (qt_assign rfl rfl) ?_
    refine g_v (.free rfl) rfl rfl (qt_assign rfl rfl) ?_
    refine g_nil ?_
    refine gk_then (hK11 _ _ ?_)
    refine gc_seq fun K14 hK14 => ?_
    refine gc_region ?_
    refine g_v (.free rfl) rfl rfl (qt_move rfl rfl) ?_
    refine g_v (.free rfl) rfl rfl (qt_move rfl rfl) ?_
    refine g_v (.free rfl) rfl rfl (qt_move rfl rfl) ?_
    refine g_op (.free rfl) fun K16 hK16 => ?_
    refine go_callLI rfl rfl rfl Try.func59 rfl (by decide) rfl (fun w M => HEi w _ _ (two_rd1 (n := 0) M rfl) (two_rd2 (n := 0) M rfl)) ?_
    intro va15 vc15
    refine hK16 _ _ ?_
    refine g_v (.free rfl) rfl rfl (qt_move rfl rfl) ?_
    refine g_v (.free rfl) rfl rfl (qt_extract rfl rfl rfl) ?_
    refine g_v (.free rfl) rfl rfl (qt_extract rfl rfl rfl) ?_
    refine g_v (.free rfl) rfl rfl (qt_assign rfl rfl) ?_
    refine g_v (.free rfl) rfl rfl (qt_assign rfl rfl) ?_
    refine g_nil ?_
    refine gk_then (hK14 _ _ ?_)
    refine gc_seq fun K17 hK17 => ?_
    refine gc_region ?_
    refine g_v (.free rfl) rfl rfl (qt_move rfl rfl) ?_
    refine g_v (.free rfl) rfl rfl (qt_move rfl rfl) ?_
    refine g_v (.free rfl) rfl rfl (qt_move rfl rfl) ?_
    refine g_op (.free rfl) fun K19 hK19 => ?_
    refine go_callLI rfl rfl rfl Try.func60 rfl (by decide) rfl (fun w M => HEs w _ _ (two_rd1 (n := 0) M rfl) (two_rd2 (n := 0) M rfl)) ?_
    intro va18 vc18
    refine hK19 _ _ ?_
    refine g_v (.free rfl) rfl rfl (qt_move rfl rfl) ?_
    refine g_v (.free rfl) rfl rfl (qt_extract rfl rfl rfl) ?_
    refine g_v (.free rfl) rfl rfl (qt_extract rfl rfl rfl) ?_
    refine g_v (.free rfl) rfl rfl (qt_assign rfl rfl) ?_
    refine g_v (.free rfl) rfl rfl (qt_assign rfl rfl) ?_
    refine g_nil ?_
    refine gk_then (hK17 _ _ ?_)
    refine gc_seq fun K20 hK20 => ?_
    refine gc_seq fun K21 hK21 => ?_
    refine gc_region ?_
    refine g_v (.free rfl) rfl rfl (qt_move rfl rfl) ?_
    refine g_v (.free rfl) rfl rfl (qt_move rfl rfl) ?_
    refine g_v (.free rfl) rfl rfl (qt_neq_f rfl rfl rfl (fun h => h rfl)) ?_
    refine g_v (.free rfl) rfl rfl (qt_move rfl rfl) ?_
    refine g_v (.held _ _ _ rfl rfl rfl) rfl rfl (qt_move rfl rfl) ?_
    refine g_v (.held _ _ _ rfl rfl rfl) rfl rfl (qt_move rfl rfl) ?_
    refine g_v (.held _ _ _ rfl rfl rfl) rfl rfl (qt_neq_f rfl rfl rfl (fun h => h rfl)) ?_
    refine g_v (.free rfl) rfl rfl (qt_pick_f rfl rfl rfl) ?_
    refine g_v (.free rfl) rfl rfl (qt_move rfl rfl) ?_
    refine g_v (.held _ _ _ rfl rfl rfl) rfl rfl (qt_move rfl rfl) ?_
    refine g_v (.held _ _ _ rfl rfl rfl) rfl rfl (qt_move rfl rfl) ?_
    refine g_q (.held _ _ _ rfl rfl rfl) rfl rfl (qt_call rfl Try.func42 rfl (by decide) rfl (fun w M => like_refl_any w _ _ _ ((mem_own1 (n := 1) M rfl).rd) ((mem_own1 (n := 2) M rfl).rd))) ?_
    refine g_v (.held _ _ _ rfl rfl rfl) rfl rfl (qt_not rfl rfl) ?_
    refine g_v (.free rfl) rfl rfl (qt_pick_f rfl rfl rfl) ?_
    refine g_v (.free rfl) rfl rfl (qt_move rfl rfl) ?_
    refine g_v (.held _ _ _ rfl rfl rfl) rfl rfl (qt_move rfl rfl) ?_
    refine g_v (.held _ _ _ rfl rfl rfl) rfl rfl (qt_move rfl rfl) ?_
    refine g_q (.held _ _ _ rfl rfl rfl) rfl rfl (qt_call rfl Try.func42 rfl (by decide) rfl (fun w M => like_refl_any w _ _ _ ((mem_own1 (n := 3) M rfl).rd) ((mem_own1 (n := 4) M rfl).rd))) ?_
    refine g_v (.held _ _ _ rfl rfl rfl) rfl rfl (qt_not rfl rfl) ?_
    refine g_v (.free rfl) rfl rfl (qt_pick_f rfl rfl rfl) ?_
    refine g_nil ?_
    refine gk_then (hK21 _ _ ?_)
    refine gc_cond_f rfl ?_
    refine gc_skip ?_
    refine gk_then (hK20 _ _ ?_)
    refine gc_seq fun K22 hK22 => ?_
    refine gc_seq fun K23 hK23 => ?_
    refine gc_region ?_
    refine g_v (.free rfl) rfl rfl (qt_move rfl rfl) ?_
    refine g_v (.free rfl) rfl rfl (qt_neq rfl rfl rfl) ?_
    refine g_nil ?_
    refine gk_then (hK23 _ _ ?_)
    refine gc_cond rfl (fun hc1 => ?_) (fun hc1 => ?_)
    · try simp only [decide_eq_true_eq, decide_eq_false_iff_not, Bool.not_eq_true', Bool.not_eq_false', Bool.not_eq_eq_eq_not, Bool.not_true, Bool.not_false, ne_eq, Decidable.not_not, Classical.not_not] at hc1
      refine gc_seq fun K24 hK24 => ?_
      refine gc_region ?_
      refine g_v (.free rfl) rfl rfl (qt_assign rfl rfl) ?_
      refine g_nil ?_
      refine gk_then (hK24 _ _ ?_)
      refine gc_ret ?_
      refine gk_then_ret ?_
      refine ret_1 rfl rfl  (fun w M => ?_)
      exact ⟨rfl, M.1⟩
    · try simp only [decide_eq_true_eq, decide_eq_false_iff_not, Bool.not_eq_true', Bool.not_eq_false', Bool.not_eq_eq_eq_not, Bool.not_true, Bool.not_false, ne_eq, Decidable.not_not, Classical.not_not] at hc1
      refine gc_skip ?_
      refine gk_then (hK22 _ _ ?_)
      refine gc_seq fun K25 hK25 => ?_
      have hz : codeTwo n f g = 0 := Classical.byContradiction fun hz => by unfold fCoequalizerOf at hCm; rw [if_neg hz] at hCm; simp only [Prod.mk.injEq] at hCm; exact hz (hCm.2.trans (by assumption))
      have hm : clsOf (implL n.toNat (prs f g f.length)) = m := by unfold fCoequalizerOf at hCm; rw [if_pos hz] at hCm; exact congrArg Prod.fst hCm
      have he : idxs (eqP f g) f.length = eq := by unfold fEqualizerOf at hEm; rw [if_pos hz] at hEm; exact congrArg Prod.fst hEm
      have hth := coeq_facts hz
      have hrg := coeq_rng hz
      rw [hm] at hrg
      simp only [hm] at hth
      have hhy := eql_hyps hz
      obtain ⟨th, hthe⟩ : ∃ th, thenL f m = th := ⟨_, rfl⟩
      rw [hthe] at hth
      have HT1 := fun (w : World) (v u : Value) (h1 : Rd w v f) (h2 : Rd w u m) => impl_ThenMaps w n v f (topF m m.length) u m h1 h2
      simp only [hth.1] at HT1
      have HT2 := fun (w : World) (v u : Value) (h1 : Rd w v g) (h2 : Rd w u m) => impl_ThenMaps w n v g (topF m m.length) u m h1 h2
      simp only [hth.2] at HT2
      refine gc_region ?_
      refine g_v (.free rfl) rfl rfl (qt_move rfl rfl) ?_
      refine g_v (.free rfl) rfl rfl (qt_move rfl rfl) ?_
      refine g_v (.free rfl) rfl rfl (qt_move rfl rfl) ?_
      refine g_q (.free rfl) rfl rfl (qt_call rfl Try.func61 rfl (by decide) rfl (fun w M => top5_any w _ _ ((mem_own1 (n := 2) M rfl).rd) (hrg))) ?_
      refine g_v (.free rfl) rfl rfl (qt_move rfl rfl) ?_
      refine g_op (.free rfl) fun K27 hK27 => ?_
      refine go_callLI rfl rfl rfl Try.func28 rfl (by decide) rfl (fun w M => HT1 w _ _ (two_rd1 (n := 0) M rfl) ((mem_own1 (n := 2) M rfl).rd)) ?_
      intro va26 vc26
      refine hK27 _ _ ?_
      refine g_v (.free rfl) rfl rfl (qt_move rfl rfl) ?_
      refine g_v (.free rfl) rfl rfl (qt_extract rfl rfl rfl) ?_
      refine g_v (.free rfl) rfl rfl (qt_extract rfl rfl rfl) ?_
      refine g_v (.free rfl) rfl rfl (qt_assign rfl rfl) ?_
      refine g_v (.free rfl) rfl rfl (qt_assign rfl rfl) ?_
      refine g_nil ?_
      refine gk_then (hK25 _ _ ?_)
      refine gc_seq fun K28 hK28 => ?_
      refine gc_region ?_
      refine g_v (.free rfl) rfl rfl (qt_move rfl rfl) ?_
      refine g_v (.free rfl) rfl rfl (qt_move rfl rfl) ?_
      refine g_v (.free rfl) rfl rfl (qt_move rfl rfl) ?_
      refine g_q (.free rfl) rfl rfl (qt_call rfl Try.func61 rfl (by decide) rfl (fun w M => top5_any w _ _ ((mem_own1 (n := 2) M rfl).rd) (hrg))) ?_
      refine g_v (.free rfl) rfl rfl (qt_move rfl rfl) ?_
      refine g_op (.free rfl) fun K30 hK30 => ?_
      refine go_callLI rfl rfl rfl Try.func28 rfl (by decide) rfl (fun w M => HT2 w _ _ (two_rd2 (n := 0) M rfl) ((mem_own1 (n := 2) M rfl).rd)) ?_
      intro va29 vc29
      refine hK30 _ _ ?_
      refine g_v (.free rfl) rfl rfl (qt_move rfl rfl) ?_
      refine g_v (.free rfl) rfl rfl (qt_extract rfl rfl rfl) ?_
      refine g_v (.free rfl) rfl rfl (qt_extract rfl rfl rfl) ?_
      refine g_v (.free rfl) rfl rfl (qt_assign rfl rfl) ?_
      refine g_v (.free rfl) rfl rfl (qt_assign rfl rfl) ?_
      refine g_nil ?_
      refine gk_then (hK28 _ _ ?_)
      refine gc_seq fun K31 hK31 => ?_
      refine gc_seq fun K32 hK32 => ?_
      refine gc_region ?_
      refine g_v (.free rfl) rfl rfl (qt_move rfl rfl) ?_
      refine g_v (.free rfl) rfl rfl (qt_gtr rfl rfl rfl) ?_
      refine g_splitv (.free rfl) rfl rfl (qt_move rfl rfl) (fun hs14_2 => ?_) (fun hs14_2 => ?_)
      · try simp only [decide_eq_true_eq, decide_eq_false_iff_not, Bool.not_eq_true', Bool.not_eq_false', Bool.not_eq_eq_eq_not, Bool.not_true, Bool.not_false, ne_eq, Decidable.not_not, Classical.not_not] at hs14_2
        refine g_v (.held _ _ _ rfl rfl rfl) rfl rfl (qt_move rfl rfl) ?_
        refine g_v (.held _ _ _ rfl rfl rfl) rfl rfl (qt_neq_f rfl rfl rfl (by decide)) ?_
        refine g_v (.held _ _ _ rfl rfl rfl) rfl rfl (qt_move rfl rfl) ?_
        refine g_v (.held _ _ _ rfl rfl rfl) rfl rfl (qt_move rfl rfl) ?_
        refine g_v (.held _ _ _ rfl rfl rfl) rfl rfl (qt_neq_f rfl rfl rfl (by decide)) ?_
        refine g_v (.held _ _ _ rfl rfl rfl) rfl rfl (qt_pick_f rfl rfl rfl) ?_
        refine g_v (.held _ _ _ rfl rfl rfl) rfl rfl (qt_move rfl rfl) ?_
        refine g_v (.held _ _ _ rfl rfl rfl) rfl rfl (qt_move rfl rfl) ?_
        refine g_v (.held _ _ _ rfl rfl rfl) rfl rfl (qt_move rfl rfl) ?_
        refine g_q (.held _ _ _ rfl rfl rfl) rfl rfl (qt_call rfl Try.func42 rfl (by decide) rfl (fun w M => like_refl_any w _ _ _ ((mem_own1 (n := 5) M rfl).rd) ((mem_own1 (n := 6) M rfl).rd))) ?_
        refine g_v (.held _ _ _ rfl rfl rfl) rfl rfl (qt_not rfl rfl) ?_
        refine g_v (.held _ _ _ rfl rfl rfl) rfl rfl (qt_pick_f rfl rfl rfl) ?_
        refine g_v (.free rfl) rfl rfl (qt_pick_t rfl rfl rfl) ?_
        refine g_nil ?_
        refine gk_then (hK32 _ _ ?_)
        refine gc_cond_f rfl ?_
        refine gc_skip ?_
        refine gk_then (hK31 _ _ ?_)
        refine gc_seq fun K33 hK33 => ?_
        refine gc_seq fun K34 hK34 => ?_
        refine gc_region ?_
        refine g_v (.free rfl) rfl rfl (qt_assign rfl rfl) ?_
        refine g_nil ?_
        refine gk_then (hK34 _ _ ?_)
        refine gc_block ?_
        try simp only [List.nil_append, List.cons_append, List.append_assoc, List.set_cons_succ, List.set_cons_zero]
        refine gc_loop ([(0, _), (3, _), (4, _), (5, _), (6, _), (7, _), (8, _), (9, _), (10, _), (11, _), (12, _), (13, _), (14, _), (15, _), (16, _), (17, _), (20, _), (74, _), (76, _), (110, _)] : Env) (fun s : Nat => (fun (k : Nat) => ([(18, .int .i64 (k : Int))] : Env)) s) (fun s : Nat => (fun (k : Nat) => ([] : List (Nat × Itm))) s) (fun s : Nat => (fun (k : Nat) => k ≤ f.length) s) (fun s : Nat => (fun (k : Nat) => f.length - k) s) (0) (sub_cons rfl (sub_cons rfl (sub_cons rfl (sub_cons rfl (sub_cons rfl (sub_cons rfl (sub_cons rfl (sub_cons rfl (sub_cons rfl (sub_cons rfl (sub_cons rfl (sub_cons rfl (sub_cons rfl (sub_cons rfl (sub_cons rfl (sub_cons rfl (sub_cons rfl (sub_cons rfl (sub_cons rfl (sub_cons rfl (sub_cons rfl sub_nil))))))))))))))))))))) rfl (Nat.zero_le _) ?_
        rintro k hinv KL35 hKL35
        simp only [updL, List.foldl_cons, List.foldl_nil, List.set_cons_succ, List.set_cons_zero, List.cons_append, List.nil_append] at hinv hKL35 ⊢
        have hk := hinv
        refine gc_seq fun K36 hK36 => ?_
        refine gc_seq fun K37 hK37 => ?_
        refine gc_region ?_
        refine g_v (.free rfl) rfl rfl (qt_move rfl rfl) ?_
        refine g_v (.free rfl) rfl rfl (qt_move rfl rfl) ?_
        refine g_v (.free rfl) rfl rfl (qt_len rfl rfl ulE1 (fun w M => lenV_rd (two_rd1 (n := 0) M rfl))) ?_
        refine g_v (.free rfl) rfl rfl (qt_lss rfl rfl rfl) ?_
        refine g_nil ?_
        refine gk_then (hK37 _ _ ?_)
        refine gc_cond rfl (fun hc2 => ?_) (fun hc2 => ?_)
        · try simp only [decide_eq_true_eq, decide_eq_false_iff_not, Bool.not_eq_true', Bool.not_eq_false', Bool.not_eq_eq_eq_not, Bool.not_true, Bool.not_false, ne_eq, Decidable.not_not, Classical.not_not] at hc2
          refine gc_skip ?_
          refine gk_then (hK36 _ _ ?_)
          refine gc_seq fun K38 hK38 => ?_
          refine gc_block ?_
          refine gc_seq fun K39 hK39 => ?_
          have hgk : k < g.length := by omega
          have hbe := eql_at (f := f) (g := g) (k := k) (by omega)
          rw [he] at hbe
          have HHas := fun (w : World) (v : Value) (h : Rd w v eq) => hasInt_any w v eq h (k : Int)
          simp only [hbe] at HHas
          refine gc_draw (by kernel_rfl) ?_
          refine gd_v (.free rfl) rfl rfl (qt_move rfl rfl) ?_
          refine gd_v (.free rfl) rfl rfl (qt_move rfl rfl) ?_
          refine gd_q (.free rfl) rfl rfl (qt_call rfl Try.func62 rfl (by decide) rfl (fun w M => HHas w _ ((mem_own1 (n := 4) M rfl).rd))) ?_
          refine gd_v (.free rfl) rfl rfl (qt_move rfl rfl) ?_
          refine gd_v (.free rfl) rfl rfl (qt_move rfl rfl) ?_
          refine gd_v (.free rfl) rfl rfl (qt_index rfl rfl rfl ulE1 szE1 (fun w M => lenA_rd (two_rd1 (n := 0) M rfl)) (by omega) (by omega)) ?_
          refine gd_v (.free rfl) rfl rfl (qt_load1 rfl rfl Try.underlying2 rfl (fun w M => two_rd1 (n := 0) M rfl) (by omega) (by omega)) ?_
          refine gd_v (.free rfl) rfl rfl (qt_move rfl rfl) ?_
          refine gd_v (.free rfl) rfl rfl (qt_move rfl rfl) ?_
          refine gd_v (.free rfl) rfl rfl (qt_index rfl rfl rfl ulE1 szE1 (fun w M => lenA_rd (two_rd2 (n := 0) M rfl)) (by omega) (by omega)) ?_
          refine gd_v (.free rfl) rfl rfl (qt_load1 rfl rfl Try.underlying2 rfl (fun w M => two_rd2 (n := 0) M rfl) (by omega) (by omega)) ?_
          refine gd_v (.free rfl) rfl rfl (qt_eql rfl rfl rfl) ?_
          refine gd_v (.free rfl) rfl rfl (qt_neB rfl rfl rfl Try.underlying4) ?_
          refine gd_nil ?_
          refine gk_then (hK39 _ _ ?_)
          refine gc_cond_f rfl ?_
          refine gc_skip ?_
          refine gk_block ?_
          refine gk_then (hK38 _ _ ?_)
          refine gc_region ?_
          refine g_v (.free rfl) rfl rfl (qt_move rfl rfl) ?_
          refine g_v (.free rfl) rfl rfl (qt_add rfl rfl rfl (by omega)) ?_
          refine g_v (.free rfl) rfl rfl (qt_assign rfl rfl) ?_
          refine g_nil ?_
          refine gk_then (gk_take 7 ?_)
          refine gk_sub ?hs_40 (hKL35 (k + 1) ?hi_40 ?hm_40)
          case hs_40 => exact (sub_cons rfl (sub_cons rfl (sub_cons rfl (sub_cons rfl (sub_cons rfl (sub_cons rfl (sub_cons rfl (sub_cons rfl (sub_cons rfl (sub_cons rfl (sub_cons rfl (sub_cons rfl (sub_cons rfl (sub_cons rfl (sub_cons rfl (sub_cons rfl (sub_cons rfl (sub_cons rfl (sub_cons rfl (sub_cons rfl (sub_cons rfl sub_nil)))))))))))))))))))))
          case hi_40 => omega
          case hm_40 => omega
        · try simp only [decide_eq_true_eq, decide_eq_false_iff_not, Bool.not_eq_true', Bool.not_eq_false', Bool.not_eq_eq_eq_not, Bool.not_true, Bool.not_false, ne_eq, Decidable.not_not, Classical.not_not] at hc2
          refine gc_exit ?_
          refine gk_then_exit ?_
          refine gk_then_exit ?_
          refine gk_block_hit ?_
          refine gk_then (hK33 _ _ ?_)
          refine gc_seq fun K41 hK41 => ?_
          refine gc_region ?_
          refine g_v (.free rfl) rfl rfl (qt_assign rfl rfl) ?_
          refine g_nil ?_
          refine gk_then (hK41 _ _ ?_)
          refine gc_ret ?_
          refine ret_1 rfl rfl  (fun w M => ?_)
          exact ⟨rfl, M.1⟩
      · try simp only [decide_eq_true_eq, decide_eq_false_iff_not, Bool.not_eq_true', Bool.not_eq_false', Bool.not_eq_eq_eq_not, Bool.not_true, Bool.not_false, ne_eq, Decidable.not_not, Classical.not_not] at hs14_2
        refine g_skip (.not _ _ _ _ rfl rfl rfl rfl) rfl rfl ?_
        refine g_skip (.not _ _ _ _ rfl rfl rfl rfl) rfl rfl ?_
        refine g_skip (.not _ _ _ _ rfl rfl rfl rfl) rfl rfl ?_
        refine g_skipU rfl rfl rfl rfl rfl ?_
        refine g_skipU rfl rfl rfl rfl rfl ?_
        refine g_skip (.not _ _ _ _ rfl rfl rfl rfl) rfl rfl ?_
        refine g_skip (.not _ _ _ _ rfl rfl rfl rfl) rfl rfl ?_
        refine g_skipU rfl rfl rfl rfl rfl ?_
        refine g_skipU rfl rfl rfl rfl rfl ?_
        refine g_skipU rfl rfl rfl rfl rfl ?_
        refine g_skipU rfl rfl rfl rfl rfl ?_
        refine g_skip (.not _ _ _ _ rfl rfl rfl rfl) rfl rfl ?_
        refine g_v (.free rfl) rfl rfl (qt_pick_f rfl rfl rfl) ?_
        refine g_nil ?_
        refine gk_then (hK32 _ _ ?_)
        refine gc_cond_f rfl ?_
        refine gc_skip ?_
        refine gk_then (hK31 _ _ ?_)
        refine gc_seq fun K42 hK42 => ?_
        refine gc_seq fun K43 hK43 => ?_
        refine gc_region ?_
        refine g_v (.free rfl) rfl rfl (qt_assign rfl rfl) ?_
        refine g_nil ?_
        refine gk_then (hK43 _ _ ?_)
        refine gc_block ?_
        try simp only [List.nil_append, List.cons_append, List.append_assoc, List.set_cons_succ, List.set_cons_zero]
        refine gc_loop ([(0, _), (3, _), (4, _), (5, _), (6, _), (7, _), (8, _), (9, _), (10, _), (11, _), (12, _), (13, _), (14, _), (15, _), (16, _), (17, _), (20, _), (74, _), (76, _), (110, _)] : Env) (fun s : Nat => (fun (k : Nat) => ([(18, .int .i64 (k : Int))] : Env)) s) (fun s : Nat => (fun (k : Nat) => ([] : List (Nat × Itm))) s) (fun s : Nat => (fun (k : Nat) => k ≤ f.length) s) (fun s : Nat => (fun (k : Nat) => f.length - k) s) (0) (sub_cons rfl (sub_cons rfl (sub_cons rfl (sub_cons rfl (sub_cons rfl (sub_cons rfl (sub_cons rfl (sub_cons rfl (sub_cons rfl (sub_cons rfl (sub_cons rfl (sub_cons rfl (sub_cons rfl (sub_cons rfl (sub_cons rfl (sub_cons rfl (sub_cons rfl (sub_cons rfl (sub_cons rfl (sub_cons rfl (sub_cons rfl sub_nil))))))))))))))))))))) rfl (Nat.zero_le _) ?_
        rintro k hinv KL44 hKL44
        simp only [updL, List.foldl_cons, List.foldl_nil, List.set_cons_succ, List.set_cons_zero, List.cons_append, List.nil_append] at hinv hKL44 ⊢
        have hk := hinv
        refine gc_seq fun K45 hK45 => ?_
        refine gc_seq fun K46 hK46 => ?_
        refine gc_region ?_
        refine g_v (.free rfl) rfl rfl (qt_move rfl rfl) ?_
        refine g_v (.free rfl) rfl rfl (qt_move rfl rfl) ?_
        refine g_v (.free rfl) rfl rfl (qt_len rfl rfl ulE1 (fun w M => lenV_rd (two_rd1 (n := 0) M rfl))) ?_
        refine g_v (.free rfl) rfl rfl (qt_lss rfl rfl rfl) ?_
        refine g_nil ?_
        refine gk_then (hK46 _ _ ?_)
        refine gc_cond rfl (fun hc3 => ?_) (fun hc3 => ?_)
        · try simp only [decide_eq_true_eq, decide_eq_false_iff_not, Bool.not_eq_true', Bool.not_eq_false', Bool.not_eq_eq_eq_not, Bool.not_true, Bool.not_false, ne_eq, Decidable.not_not, Classical.not_not] at hc3
          refine gc_skip ?_
          refine gk_then (hK45 _ _ ?_)
          refine gc_seq fun K47 hK47 => ?_
          refine gc_block ?_
          refine gc_seq fun K48 hK48 => ?_
          have hgk : k < g.length := by omega
          have hbe := eql_at (f := f) (g := g) (k := k) (by omega)
          rw [he] at hbe
          have HHas := fun (w : World) (v : Value) (h : Rd w v eq) => hasInt_any w v eq h (k : Int)
          simp only [hbe] at HHas
          refine gc_draw (by kernel_rfl) ?_
          refine gd_v (.free rfl) rfl rfl (qt_move rfl rfl) ?_
          refine gd_v (.free rfl) rfl rfl (qt_move rfl rfl) ?_
          refine gd_q (.free rfl) rfl rfl (qt_call rfl Try.func62 rfl (by decide) rfl (fun w M => HHas w _ ((mem_own1 (n := 4) M rfl).rd))) ?_
          refine gd_v (.free rfl) rfl rfl (qt_move rfl rfl) ?_
          refine gd_v (.free rfl) rfl rfl (qt_move rfl rfl) ?_
          refine gd_v (.free rfl) rfl rfl (qt_index rfl rfl rfl ulE1 szE1 (fun w M => lenA_rd (two_rd1 (n := 0) M rfl)) (by omega) (by omega)) ?_
          refine gd_v (.free rfl) rfl rfl (qt_load1 rfl rfl Try.underlying2 rfl (fun w M => two_rd1 (n := 0) M rfl) (by omega) (by omega)) ?_
          refine gd_v (.free rfl) rfl rfl (qt_move rfl rfl) ?_
          refine gd_v (.free rfl) rfl rfl (qt_move rfl rfl) ?_
          refine gd_v (.free rfl) rfl rfl (qt_index rfl rfl rfl ulE1 szE1 (fun w M => lenA_rd (two_rd2 (n := 0) M rfl)) (by omega) (by omega)) ?_
          refine gd_v (.free rfl) rfl rfl (qt_load1 rfl rfl Try.underlying2 rfl (fun w M => two_rd2 (n := 0) M rfl) (by omega) (by omega)) ?_
          refine gd_v (.free rfl) rfl rfl (qt_eql rfl rfl rfl) ?_
          refine gd_v (.free rfl) rfl rfl (qt_neB rfl rfl rfl Try.underlying4) ?_
          refine gd_nil ?_
          refine gk_then (hK48 _ _ ?_)
          refine gc_cond_f rfl ?_
          refine gc_skip ?_
          refine gk_block ?_
          refine gk_then (hK47 _ _ ?_)
          refine gc_region ?_
          refine g_v (.free rfl) rfl rfl (qt_move rfl rfl) ?_
          refine g_v (.free rfl) rfl rfl (qt_add rfl rfl rfl (by omega)) ?_
          refine g_v (.free rfl) rfl rfl (qt_assign rfl rfl) ?_
          refine g_nil ?_
          refine gk_then (gk_take 7 ?_)
          refine gk_sub ?hs_49 (hKL44 (k + 1) ?hi_49 ?hm_49)
          case hs_49 => exact (sub_cons rfl (sub_cons rfl (sub_cons rfl (sub_cons rfl (sub_cons rfl (sub_cons rfl (sub_cons rfl (sub_cons rfl (sub_cons rfl (sub_cons rfl (sub_cons rfl (sub_cons rfl (sub_cons rfl (sub_cons rfl (sub_cons rfl (sub_cons rfl (sub_cons rfl (sub_cons rfl (sub_cons rfl (sub_cons rfl (sub_cons rfl sub_nil)))))))))))))))))))))
          case hi_49 => omega
          case hm_49 => omega
        · try simp only [decide_eq_true_eq, decide_eq_false_iff_not, Bool.not_eq_true', Bool.not_eq_false', Bool.not_eq_eq_eq_not, Bool.not_true, Bool.not_false, ne_eq, Decidable.not_not, Classical.not_not] at hc3
          refine gc_exit ?_
          refine gk_then_exit ?_
          refine gk_then_exit ?_
          refine gk_block_hit ?_
          refine gk_then (hK42 _ _ ?_)
          refine gc_seq fun K50 hK50 => ?_
          refine gc_region ?_
          refine g_v (.free rfl) rfl rfl (qt_assign rfl rfl) ?_
          refine g_nil ?_
          refine gk_then (hK50 _ _ ?_)
          refine gc_ret ?_
          refine ret_1 rfl rfl  (fun w M => ?_)
          exact ⟨rfl, M.1⟩

end Go.Proofs.Ytfnneogadciimab
