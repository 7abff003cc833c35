
/- The law of equalizers on drawn maps: both maps agree just on their equalizer and become equal behind their coequalizer: its walk. -/
import Derived.Test.YtgkfampgofjkfaaCong
import Derived.Test.YtgkfampgofjkfaaAlike
import Derived.Test.YtgkfampgofjkfaaEqual
import Derived.Test.YtgkfampgofjkfaaThM
set_option linter.unusedSimpArgs false
set_option linter.unusedVariables false
set_option linter.unusedSectionVars false
namespace Go.Proofs.Ytgkfampgofjkfaa
open Go.RowKit


theorem two_loc (y z : Value) (xs ys : List Int) : Loc (fun w S => Own1 y xs w S ∧ Own1 z ys w S) where
  keep hs ha h := ⟨(own1_loc y xs).keep hs ha h.1, (own1_loc z ys).keep hs ha h.2⟩
/-- Two lists of the call's own that nothing writes. -/
def twoI (y z : Value) (xs ys : List Int) : Itm := ⟨_, two_loc y z xs ys⟩
section
variable {w0 : World} {is : List Itm} {ops : Array Oper} {Q : Exit → Act → World → Prop} {o : Oper} {rest : List Oper} {N : Frm} {e : Env} {v : Value} {d : Nat} {K : Act → World → Prop} {f : FuncId} {fn : Func} {ags : Array Operand} {ts : Array TypeId} {vs : List Value}
theorem two_rd1 {w : World} {n : Nat} {y z : Value} {xs ys : List Int} (M : Mem w0 w is) (h : is[n]? = some (twoI y z xs ys)) : Rd w y xs := by
  obtain ⟨S, _, hb⟩ := mem_get M h
  exact (hb.1 : Own1 y xs w S).rd
theorem two_rd2 {w : World} {n : Nat} {y z : Value} {xs ys : List Int} (M : Mem w0 w is) (h : is[n]? = some (twoI y z xs ys)) : Rd w z ys := by
  obtain ⟨S, _, hb⟩ := mem_get M h
  exact (hb.2 : Own1 z ys w S).rd
theorem go_callTwo (hd : o.dst = some d) (hN : Nat.blt d N = true) (hop : o.op = .call { callee := .value (.func f), args := ags, argTypes := ts }) (hfn : Try.prog.funcs[f]? = some fn) (hb : fn.body.isNone = false) (hn : (fn.name == "runtime.NumGoroutine") = false)
    (hargs : evoL e ags.toList = some vs) (hc : ∀ w, Mem w0 w is → Calls Try.prog f vs.toArray w (fun e w' => ∃ (n : Int) (xs ys : List Int) (y z : Value), e = .returned (.tuple #[.int .i64 n, y, z]) ∧ Sl w' w.heap.size y xs ∧ xs.length ≤ 301 ∧ Sl w' w.heap.size z ys ∧ ys.length ≤ 301 ∧ CountP n ∧ Below w.heap.size w w'))
    (hk : ∀ (n : Int) (xs ys : List Int) (a : Option Addr) (k : Nat) (b : Option Addr) (j : Nat), xs.length ≤ 301 → ys.length ≤ 301 → CountP n → GK w0 (is ++ [twoI (.slice a xs.length k) (.slice b ys.length j) xs ys]) N K ((d, .tuple #[.int .i64 n, .slice a xs.length k, .slice b ys.length j]) :: e)) : GO w0 is N o e Q K := by
  intro w a M F
  refine go_call hd hN F hop hfn hb hn hargs (hc w M) fun e' w' hR => ?_
  obtain ⟨n, xs, ys, y, z, rfl, h1, l1, h2, l2, hcn, hbl⟩ := hR
  obtain ⟨ya, yc, rfl⟩ := rd_form h1.rd
  obtain ⟨za, zc, rfl⟩ := rd_form h2.rd
  exact ⟨_, rfl, fun a F => hk n xs ys ya yc za zc l1 l2 hcn w' a (mem_new M hbl ⟨own1_of h1, own1_of h2⟩) F⟩
theorem qt_max {x y : Operand} {t t' : TypeId} {a b : Int} (hop : o.op = .call { callee := .builtin .max, args := #[x, y], argTypes := #[t, t'] }) (hx : evo e x = some (.int .i64 a)) (hy : evo e y = some (.int .i64 b)) : QV w0 is o e (.int .i64 (max a b)) :=
  fun w ac M F => by
    have hx := F _ _ hx; have hy := F _ _ hy
    simp [execOp, hop, resolve, invoke, builtin, Builtin.max_, Builtin.max2, hx, hy, Sem.run_bind, Sem.run_pure, Result.andThen_ok, go_sem]
    split <;> omega
theorem g_skipU {j t : Nat} {b : Bool} (h : o.guard = some (j, b)) (hj : (ops[j]?).bind (·.dst) = some t) (ht : look e t = some undef) (hd : o.dst = some d) (hN : Nat.blt d N = true) (hk : G w0 is N ops Q rest ((d, undef) :: e)) : G w0 is N ops Q (o :: rest) e := by
  intro w a M F R
  unfold wpListIn
  have hw : Region.wanted o (yielded ops a.tmps) = false := by
    simp [Region.wanted, h, yielded, hj, F.at_ t _ ht, undef]
  rw [if_neg (by simp [hw]), hd]
  exact ⟨fun _ _ => trivial, hk w _ M (fit_put F hN) R.r⟩
end
/-! ### The lists -/
def topF (p : List Int) : Nat → Int
  | 0 => 0
  | k + 1 => max (topF p k) (at0 p (k : Int) + 1)
theorem topF_succ (p : List Int) (k : Nat) : max (topF p k) (at0 p (k : Int) + 1) = topF p (k + 1) := rfl
theorem topF_ge (p : List Int) : ∀ k, 0 ≤ topF p k ∧ ∀ j : Nat, j < k → at0 p (j : Int) < topF p k
  | 0 => ⟨Int.le_refl _, fun j hj => absurd hj (by omega)⟩
  | k + 1 => by
    have ih := topF_ge p k
    show 0 ≤ max _ _ ∧ ∀ j : Nat, j < k + 1 → _ < max _ _
    refine ⟨by omega, fun j hj => ?_⟩
    by_cases h : j < k
    · have := ih.2 j h; omega
    · obtain rfl : j = k := by omega
      omega
theorem topF_le {p : List Int} {b : Int} (hb : 0 ≤ b) (h : ∀ j : Nat, j < p.length → at0 p (j : Int) < b) : ∀ k, k ≤ p.length → topF p k ≤ b
  | 0, _ => hb
  | k + 1, hk => by
    have ih := topF_le hb h k (by omega)
    have := h k (by omega)
    show max _ _ ≤ b
    omega
theorem cls_nat (l : List Int) {k : Nat} (hk : k < l.length) : 0 ≤ at0 (clsOf l) (k : Int) ∧ at0 (clsOf l) (k : Int) < l.length := by
  rw [at0_nat, clsOf_getD hk]
  have h1 := List.idxOf_le_length (a := l.getD k 0) (l := seenOf (l.take k))
  have h2 := seenOf_len (l.take k)
  have h3 : (l.take k).length = k := by simp; omega
  omega
/-- What a coequalizer has. -/
theorem coeq_facts {n : Int} {f g : List Int} (hz : codeTwo n f g = 0) : let m := clsOf (implL n.toNat (prs f g f.length))
    fThenMaps n f (topF m m.length) m = (thenL f m, 0) ∧ fThenMaps n g (topF m m.length) m = (thenL f m, 0) := by
  intro m
  obtain ⟨hmf, hmg, hl⟩ := codeTwo_maps hz
  have hn0 := hmf.1.1; have hn1 := hmf.1.2
  have hml : m.length = n.toNat := by show (clsOf _).length = _; rw [clsOf_len, implL_len]
  have hmi : ∀ k : Nat, k < m.length → 0 ≤ at0 m (k : Int) ∧ at0 m (k : Int) < m.length := fun k hk => by
    have := cls_nat (implL n.toNat (prs f g f.length)) (k := k) (by rw [implL_len]; omega)
    rw [implL_len] at this
    exact ⟨this.1, by rw [hml]; exact this.2⟩
  have htop := topF_ge m m.length
  have htl := topF_le (p := m) (b := 256) (by omega) (fun j hj => by have := (hmi j hj).2; omega) m.length (Nat.le_refl _)
  have hS : SizeP (topF m m.length) := ⟨htop.1, htl⟩
  have hM : MapP (topF m m.length) m := by
    refine ⟨hS, by omega, fun x hx => ?_⟩
    obtain ⟨j, hj, rfl⟩ := List.getElem_of_mem hx
    have e : m[j] = at0 m (j : Int) := by rw [at0_nat, List.getD_eq_getElem?_getD, List.getElem?_eq_getElem hj]; rfl
    rw [e]; exact ⟨(hmi j hj).1, htop.2 j hj⟩
  have hlen : (m.length : Int) = n := by omega
  have hT : ∀ h : List Int, MapP n h → fThenMaps n h (topF m m.length) m = (thenL h m, 0) := fun h hh => by
    unfold fThenMaps; rw [if_pos ⟨hmf.1, hS⟩, if_pos ⟨hh, hM, hlen⟩]
  refine ⟨hT f hmf, ?_⟩
  rw [hT g hmg]
  refine Prod.ext ?_ rfl
  have hps := prs_pairs hmf.2.2 hmg.2.2 hl
  have hmc : m = clsOf (specL n.toNat (prs f g f.length)) := (join_cls hps).symm
  have hk := ker_cls2 (specL n.toNat (prs f g f.length))
  rw [← hmc] at hk
  refine List.ext_getElem (by simp [thenL, hl]) fun j h1 h2 => ?_
  simp only [thenL, List.length_map] at h1 h2
  simp only [thenL, List.getElem_map]
  have hq : [f.getD j 0, g.getD j 0] ∈ prs f g f.length := by simp only [prs, List.mem_map, List.mem_range]; exact ⟨j, h2, rfl⟩
  have hr := relL_has hps hq
  have hrng := pair_range (hps _ hq)
  have := (hk.2 (pa [f.getD j 0, g.getD j 0]) (pb [f.getD j 0, g.getD j 0]) (by rw [specL_len]; exact hrng.1) (by rw [specL_len]; exact hrng.2.1)).1 hr
  have e1 : f[j] = f.getD j 0 := by rw [List.getD_eq_getElem?_getD, List.getElem?_eq_getElem h2]; rfl
  have e2 : g[j] = g.getD j 0 := by rw [List.getD_eq_getElem?_getD, List.getElem?_eq_getElem h1]; rfl
  rw [e1, e2]
  exact this.symm
theorem idxs_mem {p : Nat → Bool} {k : Nat} {x : Nat} : ((x : Int) ∈ idxs p k) ↔ x < k ∧ p x = true := by
  simp only [idxs, List.mem_map, List.mem_filter, List.mem_range]
  constructor
  · rintro ⟨a, h, e⟩
    obtain rfl : a = x := by omega
    exact h
  · intro h; exact ⟨x, h, rfl⟩


theorem bigN_any (w : World) (a : Option Addr) (len cap : Nat) (hl : len ≤ 9223372036854775807) : Calls Try.prog 25 #[.slice a len cap] w (RetB w (decide (4096 < (len : Int)))) := by
  go_enter Try.func25, Try.ntmps25
  go_wp2
  go_ret
  exact ⟨by simp, (Below.refl _ _)⟩

theorem eql_hyps {n : Int} {f g : List Int} (hz : codeTwo n f g = 0) : f.length = g.length ∧ f.length ≤ 256 ∧ 0 ≤ n ∧ n ≤ 256 := by
  obtain ⟨hmf, hmg, hl⟩ := codeTwo_maps hz
  exact ⟨hl, hmf.2.1, hmf.1.1, hmf.1.2⟩
theorem eql_at {f g : List Int} {k : Nat} (h : k < f.length) : bP ((k : Int) ∈ idxs (eqP f g) f.length) = decide (at0 f (k : Int) = at0 g (k : Int)) := by
  rw [← bP_dec]
  refine bP_congr ?_
  rw [idxs_mem, at0_nat, at0_nat]
  exact ⟨fun hh => by simpa [eqP] using hh.2, fun hh => ⟨h, by simpa [eqP] using hh⟩⟩
theorem coeq_rng {n : Int} {f g : List Int} (hz : codeTwo n f g = 0) : ∀ j : Nat, j < (clsOf (implL n.toNat (prs f g f.length))).length → 0 ≤ at0 (clsOf (implL n.toNat (prs f g f.length))) (j : Int) ∧ at0 (clsOf (implL n.toNat (prs f g f.length))) (j : Int) < 1000 := fun j hj => by
  have h := eql_hyps hz
  rw [clsOf_len] at hj
  have := cls_nat (implL n.toNat (prs f g f.length)) hj
  rw [implL_len] at this
  omega

end Go.Proofs.Ytgkfampgofjkfaa
