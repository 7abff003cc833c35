
/- The congruence that pairs generate: both sides. -/
import Derived.Test.YtpfcfhjpgngneacCong2
import Derived.Test.YtpfcfhjpgngneacClo
set_option linter.unusedSimpArgs false
set_option linter.unusedVariables false
set_option linter.unusedSectionVars false
namespace Go.Proofs.Ytpfcfhjpgngneac
open Go.RowKit


/-! ### A call that changes one thing of the caller's -/
theorem rest_loc (js : List Itm) : Loc (fun w S => Star js w S) where
  keep hs ha h := star_keep js hs ha h
def restI (js : List Itm) : Itm := ⟨_, rest_loc js⟩
section
variable {w0 : World} {is : List Itm} {ops : Array Oper} {Q : Exit → Act → World → Prop} {o : Oper} {N : Nat} {e : Env} {v : Value} {d : Nat} {K : Act → World → Prop} {f : FuncId} {fn : Func} {ags : Array Operand} {ts : Array TypeId} {vs : List Value}
theorem mem_one_out {w : World} {n : Nat} {i : Itm} (M : Mem w0 w is) (h : is[n]? = some i) : Mem w0 w [i, restI (is.eraseIdx n)] := by
  refine ⟨M.1, ?_⟩
  obtain ⟨S1, S2, k1, k2, kd, h1, h2⟩ := star_pick is h M.2
  exact ⟨S1, S2, k1, k2, kd, h1, S2, fun _ => False, fun k h => h, fun k h => h.elim, fun k _ h => h, h2, trivial⟩
theorem mem_one_in {w : World} {n : Nat} {i : Itm} (hn : n < is.length) (M : Mem w0 w [i, restI (is.eraseIdx n)]) : Mem w0 w (is.set n i) := by
  refine ⟨M.1, star_unpick is hn ?_⟩
  obtain ⟨S1, S2, k1, k2, kd, h1, T1, T2, t1, t2, td, h2, _⟩ := M.2
  exact ⟨S1, T1, k1, fun k h => k2 k (t1 k h), fun k h h' => kd k h (t1 k h'), h1, h2⟩
theorem mem_rdX {w : World} {n : Nat} {i : Itm} {P : World → Prop} (M : Mem w0 w is) (h : is[n]? = some i) (hp : ∀ w S, i.p w S → P w) : P w := by
  obtain ⟨S, _, hb⟩ := mem_get M h
  exact hp w S hb
theorem star_own1 {js : List Itm} {w : World} {S : Nat → Prop} {n : Nat} {xs : List Int} (h : Star js w S) (hi : js[n]? = some (own1I v xs)) : Rd w v xs := by
  obtain ⟨S1, _, h1⟩ := star_get js hi h
  exact Own1.rd h1
theorem star_own2U {js : List Itm} {w : World} {S : Nat → Prop} {n : Nat} {us : List Value} {rows : List (List Int)} (h : Star js w S) (hi : js[n]? = some (own2U v us rows)) : Rd2 w v rows := by
  obtain ⟨S1, _, h1⟩ := star_get js hi h
  exact Own2.rd (S := S1) ⟨us, h1⟩
theorem go_one {i i' : Itm} {n : Nat} {r : Value} (hd : o.dst = some d) (hN : Nat.blt d N = true) (hop : o.op = .call { callee := .value (.func f), args := ags, argTypes := ts }) (hfn : Try.prog.funcs[f]? = some fn) (hb : fn.body.isNone = false) (hnm : (fn.name == "runtime.NumGoroutine") = false)
    (hargs : evoL e ags.toList = some vs) (hi : is[n]? = some i)
    (hc : ∀ w, Mem w0 w [i, restI (is.eraseIdx n)] → Calls Try.prog f vs.toArray w (fun e w' => e = .returned r ∧ Mem w0 w' [i', restI (is.eraseIdx n)]))
    (hk : GK w0 (is.set n i') N K ((d, r) :: e)) : GO w0 is N o e Q K := by
  intro w a M F
  have hn : n < is.length := (List.getElem?_eq_some_iff.1 hi).1
  refine go_call hd hN F hop hfn hb hnm hargs (hc w (mem_one_out M hi)) fun e' w' hR => ?_
  obtain ⟨rfl, M'⟩ := hR
  exact ⟨r, rfl, fun a F => hk w' a (mem_one_in hn M') F⟩
theorem go_leader {R : List Int} {x : Int} {n : Nat} (hd : o.dst = some d) (hN : Nat.blt d N = true) (hop : o.op = .call { callee := .value (.func f), args := ags, argTypes := ts }) (hfn : Try.prog.funcs[f]? = some fn) (hb : fn.body.isNone = false) (hn : (fn.name == "runtime.NumGoroutine") = false)
    (hargs : evoL e ags.toList = some [v, .int .i64 x]) (hf : f = 120) (hi : is[n]? = some (leadI v R)) (x0 : 0 ≤ x) (x1 : x < R.length)
    (hk : GK w0 (is.set n (leadI v R)) N K ((d, .int .i64 (R.getD x.toNat 0)) :: e)) : GO w0 is N o e Q K := by
  subst hf
  obtain ⟨x, rfl⟩ := Int.eq_ofNat_of_zero_le x0
  intro w a M F
  obtain ⟨S, hS, ⟨l, hl, hl2, hl3⟩, hset⟩ := mem_set M hi
  have hlen : R.length = l.length := by rw [← hl3, Rts_len]
  refine go_call hd hN F hop hfn hb hn hargs (leader_any w 0 v l x hl.1 hl2 (by omega)) fun e' w' hR => ?_
  obtain ⟨l', rfl, hl', hl2', hle, hrt, hg⟩ := hR
  have hv : (rt l x : Int) = R.getD ((x : Int)).toNat 0 := by rw [← hl3, Int.toNat_natCast, Rts_getD (by omega)]
  rw [hv]
  exact ⟨_, rfl, fun a F => hk w' a (hset w' (leadI v _) (frS_grown hg hl.2) ⟨l', ⟨hl', fun q hq => .inl (hl.2 q hq)⟩, hl2', (Rts_same hle hrt).trans hl3⟩) F⟩
end
theorem rdC_parts {w : World} {x : Value} {vs vt ve vm : Value} {c : Cat} (h : RdC w (.agg #[x, vs, vt, ve, vm]) c) : Rd w vs c.s ∧ Rd w vt c.t ∧ Rd w ve c.e ∧ Rd2 w vm c.m := by
  obtain ⟨a, b, e, m, hv, h1, h2, h3, h4⟩ := h
  simp only [Value.agg.injEq] at hv
  have hl := congrArg Array.toList hv
  simp only [List.cons.injEq, and_true] at hl
  obtain ⟨_, rfl, rfl, rfl, rfl⟩ := hl
  exact ⟨h1, h2, h3, h4⟩
/-! ### What is joined -/
def jcL (c : Cat) (q : List Int) (f g : Nat) : List (List Int) := sprF c q f ++ sprR c q f g
theorem jcL_t {c : Cat} {q : List Int} {f g : Nat} (h : hitS c q f g) : jcL c q f g ++ [compS c q f g] = jcL c q f (g + 1) := by simp [jcL, sprR, List.range_succ, h]
theorem jcL_f {c : Cat} {q : List Int} {f g : Nat} (h : ¬ hitS c q f g) : jcL c q f g = jcL c q f (g + 1) := by simp [jcL, sprR, List.range_succ, h]
theorem jcL_row (c : Cat) (q : List Int) (f : Nat) : jcL c q f c.s.length = jcL c q (f + 1) 0 := by simp [jcL, sprF, sprR, List.range_succ, List.flatMap_append]
theorem jcL_none {c : Cat} {q : List Int} {f : Nat} (h : ¬ at0 c.t (f : Int) = at0 c.s (at0 q 0)) : jcL c q f 0 = jcL c q (f + 1) 0 := by
  have h0 : sprR c q f c.s.length = [] := by
    unfold sprR
    rw [List.filter_eq_nil_iff.2 fun g _ => by simp only [decide_eq_true_eq]; exact fun hh => h hh.1]; rfl
  rw [← jcL_row]
  unfold jcL
  rw [h0]; rfl
theorem jc_step (R : List Int) (c : Cat) (q : List Int) (f g : Nat) : mergeR ((jcL c q f g).foldl implStep R) (((jcL c q f g).foldl implStep R).getD (c.th (c.th (f : Int) (at0 q 0)) (g : Int)).toNat 0) (((jcL c q f g).foldl implStep R).getD (c.th (c.th (f : Int) (at0 q 1)) (g : Int)).toNat 0) = (jcL c q f g ++ [compS c q f g]).foldl implStep R := by
  rw [List.foldl_append]; rfl
theorem jc_len (R : List Int) (l : List (List Int)) : (l.foldl implStep R).length = R.length := implFold_len l R
theorem implL_app (n : Nat) (a b : List (List Int)) : b.foldl implStep (implL n a) = implL n (a ++ b) := by unfold implL; rw [List.foldl_append]
/-- The leaders tell what is joined. -/
theorem lead_rel {n : Nat} {L : List (List Int)} (h : ∀ r ∈ L, PairP n r) {i j : Nat} (hi : i < n) (hj : j < n) : (implL n L).getD i 0 = (implL n L).getD j 0 ↔ RelL n L i j :=
  ((ker_all h).2 i j (by rw [specL_len]; exact hi) (by rw [specL_len]; exact hj)).symm
def SameR (n : Nat) (A B : List (List Int)) : Prop := ∀ i j, i < n → j < n → (RelL n A i j ↔ RelL n B i j)
theorem rel_mono {n : Nat} {A B : List (List Int)} (hA : ∀ r ∈ A, PairP n r) (h : ∀ q ∈ A, RelL n B (pa q) (pb q)) {i j : Nat} (hi : i < n) (hj : j < n) (he : RelL n A i j) : RelL n B i j := relL_sub hA h hi hj he
theorem sprF_mem {c : Cat} {q r : List Int} : r ∈ sprF c q c.s.length ↔ ∃ f g : Nat, f < c.s.length ∧ g < c.s.length ∧ hitS c q f g ∧ compS c q f g = r := by
  simp only [sprF, sprR, List.mem_flatMap, List.mem_map, List.mem_filter, List.mem_range, decide_eq_true_eq]
  exact ⟨fun ⟨f, hf, g, ⟨hg, hh⟩, e⟩ => ⟨f, g, hf, hg, hh, e⟩, fun ⟨f, g, hf, hg, hh, e⟩ => ⟨f, hf, g, ⟨hg, hh⟩, e⟩⟩
theorem take_par {c : Cat} {ps : List (List Int)} (h : ParL c ps) (k : Nat) : ParL c (ps.take k) := fun q hq => h q (List.mem_of_mem_take hq)
theorem take_mem {ps : List (List Int)} {k : Nat} (hk : k < ps.length) {r : List Int} : r ∈ ps.take (k + 1) ↔ r ∈ ps.take k ∨ r = row2 ps (k : Int) := by
  rw [← take2_succ hk, List.mem_append, List.mem_singleton]
theorem self_in {c : Cat} (hC : IsCat c) {q : List Int} (hq : PairP c.s.length q) (hp : Par c (pa q) (pb q)) : [(pa q : Int), (pb q : Int)] ∈ sprF c q c.s.length := by
  obtain ⟨e0, e1, la, lb⟩ := pair_at hq
  have d1 := cat_ids hC la; have d2 := cat_ids hC lb
  rw [← idL_par hp, ← idR_par hp.2] at d2
  refine sprF_mem.2 ⟨idL c (pa q), idR c (pa q), d1.1.1, d1.2.1, ⟨by rw [e0]; exact d1.1.2.1, by rw [e0]; exact d1.2.2.1.symm⟩, ?_⟩
  unfold compS
  rw [e0, e1, d1.1.2.2.2, d2.1.2.2.2, d1.2.2.2.2, d2.2.2.2.2]
/-- One more pair. -/
theorem same_step {c : Cat} (hC : IsCat c) {ps L : List (List Int)} (hps : ParL c ps) {k : Nat} (hk : k < ps.length) (hL : ∀ r ∈ L, PairP c.s.length r) (h : SameR c.s.length L (spread c (ps.take k))) :
    (∀ r ∈ L ++ sprF c (row2 ps (k : Int)) c.s.length, PairP c.s.length r) ∧ SameR c.s.length (L ++ sprF c (row2 ps (k : Int)) c.s.length) (spread c (ps.take (k + 1))) := by
  have hq := hps _ (row2_memL hk)
  have s0 := spread_pair hC (take_par hps k)
  have s1 := spread_pair hC (take_par hps (k + 1))
  have p0 : ∀ r ∈ spread c (ps.take k), PairP c.s.length r := fun r hr => (s0 r hr).1
  have p1 : ∀ r ∈ spread c (ps.take (k + 1)), PairP c.s.length r := fun r hr => (s1 r hr).1
  have sub : ∀ r ∈ spread c (ps.take k), r ∈ spread c (ps.take (k + 1)) := fun r hr => by
    rcases spread_mem.1 hr with h | ⟨q, hq, hh⟩
    · exact spread_mem.2 (.inl ((take_mem hk).2 (.inl h)))
    · exact spread_mem.2 (.inr ⟨q, (take_mem hk).2 (.inl hq), hh⟩)
  have sub2 : ∀ r ∈ sprF c (row2 ps (k : Int)) c.s.length, r ∈ spread c (ps.take (k + 1)) := fun r hr => by
    obtain ⟨f, g, hh⟩ := sprF_mem.1 hr
    exact spread_mem.2 (.inr ⟨_, (take_mem hk).2 (.inr rfl), f, g, hh⟩)
  have pL : ∀ r ∈ L ++ sprF c (row2 ps (k : Int)) c.s.length, PairP c.s.length r := fun r hr => (List.mem_append.1 hr).elim (hL r) fun h => p1 r (sub2 r h)
  have inL : ∀ {r}, r ∈ L → RelL c.s.length (L ++ sprF c (row2 ps (k : Int)) c.s.length) (pa r) (pb r) := fun hr => relL_has pL (List.mem_append_left _ hr)
  have inS : ∀ {r}, r ∈ sprF c (row2 ps (k : Int)) c.s.length → RelL c.s.length (L ++ sprF c (row2 ps (k : Int)) c.s.length) (pa r) (pb r) := fun hr => relL_has pL (List.mem_append_right _ hr)
  have rng : ∀ {r}, r ∈ spread c (ps.take (k + 1)) → pa r < c.s.length ∧ pb r < c.s.length := fun hr => (pair_at (p1 _ hr)).2.2
  refine ⟨pL, fun i j hi hj => ⟨fun he => rel_mono pL (fun r hr => ?_) hi hj he, fun he => rel_mono p1 (fun r hr => ?_) hi hj he⟩⟩
  · rcases List.mem_append.1 hr with h1 | h1
    · have hrr := pair_at (hL r h1)
      exact rel_mono p0 (fun q hq => relL_has p1 (sub q hq)) hrr.2.2.1 hrr.2.2.2 ((h _ _ hrr.2.2.1 hrr.2.2.2).1 (relL_has hL h1))
    · exact relL_has p1 (sub2 r h1)
  · have old : r ∈ spread c (ps.take k) → RelL c.s.length (L ++ sprF c (row2 ps (k : Int)) c.s.length) (pa r) (pb r) := fun hr0 => by
      have hrr := pair_at (p0 r hr0)
      exact rel_mono hL (fun q hq => inL hq) hrr.2.2.1 hrr.2.2.2 ((h _ _ hrr.2.2.1 hrr.2.2.2).2 (relL_has p0 hr0))
    rcases spread_mem.1 hr with h1 | ⟨q, hq1, f, g, hh⟩
    · rcases (take_mem hk).1 h1 with h1 | rfl
      · exact old (spread_mem.2 (.inl h1))
      · have := inS (self_in hC hq.1 hq.2)
        have h2 := two_pair (pair_at hq.1).2.2.1 (pair_at hq.1).2.2.2
        rwa [h2.2.1, h2.2.2] at this
    · rcases (take_mem hk).1 hq1 with h1 | rfl
      · exact old (spread_mem.2 (.inr ⟨q, h1, f, g, hh⟩))
      · exact inS (sprF_mem.2 ⟨f, g, hh⟩)
/-- A pair that is in one class already. -/
theorem same_skip {c : Cat} (hC : IsCat c) {ps L : List (List Int)} (hps : ParL c ps) {k : Nat} (hk : k < ps.length) (h : SameR c.s.length L (spread c (ps.take k))) (hr0 : RelL c.s.length L (pa (row2 ps (k : Int))) (pb (row2 ps (k : Int)))) :
    SameR c.s.length L (spread c (ps.take (k + 1))) := by
  have hq := hps _ (row2_memL hk)
  obtain ⟨_, _, la, lb⟩ := pair_at hq.1
  have s0 := spread_pair hC (take_par hps k)
  have s1 := spread_pair hC (take_par hps (k + 1))
  have p0 : ∀ r ∈ spread c (ps.take k), PairP c.s.length r := fun r hr => (s0 r hr).1
  have p1 : ∀ r ∈ spread c (ps.take (k + 1)), PairP c.s.length r := fun r hr => (s1 r hr).1
  have hrel := (h _ _ la lb).1 hr0
  have same : SameR c.s.length (spread c (ps.take k)) (spread c (ps.take (k + 1))) := fun i j hi hj => by
    refine ⟨fun he => rel_mono p0 (fun r hr => relL_has p1 ?_) hi hj he, fun he => rel_mono p1 (fun r hr => ?_) hi hj he⟩
    · rcases spread_mem.1 hr with h | ⟨q, hq, hh⟩
      · exact spread_mem.2 (.inl ((take_mem hk).2 (.inl h)))
      · exact spread_mem.2 (.inr ⟨q, (take_mem hk).2 (.inl hq), hh⟩)
    · rcases spread_mem.1 hr with h1 | ⟨q, hq1, f, g, hf, hg, hh, rfl⟩
      · rcases (take_mem hk).1 h1 with h1 | rfl
        · exact relL_has p0 (spread_mem.2 (.inl h1))
        · exact hrel
      · rcases (take_mem hk).1 hq1 with h1 | rfl
        · exact relL_has p0 (spread_mem.2 (.inr ⟨q, h1, f, g, hf, hg, hh, rfl⟩))
        · obtain ⟨x, y, k', l', ek, el, lk, ll, ex, ey, lx, ly, e, hp2, sx, tx, j1, j2⟩ := comp_two hC hq.1 hq.2 hf hg hh
          have hpe : pa (compS c (row2 ps (k : Int)) f g) = x ∧ pb (compS c (row2 ps (k : Int)) f g) = y := by rw [e]; exact (two_pair lx ly).2
          rw [hpe.1, hpe.2]
          rcases spread_clo hC (take_par hps k) la lb hrel with hab | hcl
          · rw [← hab] at el
            have : k' = l' := by omega
            subst this
            have : x = y := by omega
            subst this
            exact (relL_eqv _ _).refl x
          · exact hcl.2 f g k' l' x y hf hg j1 j2 ek el ex ey
  exact fun i j hi hj => (h i j hi hj).trans (same i j hi hj)
theorem same_zero (n : Nat) (c : Cat) (ps : List (List Int)) : SameR n [] (spread c (ps.take 0)) := fun i j _ _ => by simp [spread, sprK]
/-! ### Errors -/
def RngL (c : Cat) (ps : List (List Int)) : Prop := ∀ k : Nat, k < ps.length → AllP c.s.length (row2 ps (k : Int))
def par2 (c : Cat) (q : List Int) : Prop := q.length = 2 ∧ at0 c.s (at0 q 0) = at0 c.s (at0 q 1) ∧ at0 c.t (at0 q 0) = at0 c.t (at0 q 1)
def Par2L (c : Cat) (ps : List (List Int)) : Prop := ∀ k : Nat, k < ps.length → par2 c (row2 ps (k : Int))
theorem parL_of {c : Cat} {ps : List (List Int)} (h : RngL c ps) (h' : Par2L c ps) : ParL c ps := fun q hq => by
  obtain ⟨k, hk, rfl⟩ := List.getElem_of_mem hq
  have he : row2 ps (k : Int) = ps[k] := by simp [row2, List.getD_eq_getElem?_getD, List.getElem?_eq_getElem hk]
  have h1 := h k hk; have h2 := h' k hk
  rw [he] at h1 h2
  have hp : PairP c.s.length ps[k] := ⟨h2.1, h1⟩
  obtain ⟨e0, e1, _⟩ := pair_at hp
  have h3 := h2.2
  rw [e0, e1] at h3
  exact ⟨hp, h3⟩
noncomputable def pairErr (c : Cat) (ps : List (List Int)) : Int := if bP (RngL c ps) = true then (if bP (Par2L c ps) = true then 0 else 5) else 2
theorem perr_r {c : Cat} {ps : List (List Int)} (h : ¬ RngL c ps) : pairErr c ps = 2 := if_neg (by rw [bP_f h]; decide)
theorem perr_s {c : Cat} {ps : List (List Int)} (h : RngL c ps) (h' : ¬ Par2L c ps) : pairErr c ps = 5 := by unfold pairErr; rw [if_pos (bP_t h), if_neg (by rw [bP_f h']; decide)]
theorem perr_t {c : Cat} {ps : List (List Int)} (h : RngL c ps) (h' : Par2L c ps) : pairErr c ps = 0 := by unfold pairErr; rw [if_pos (bP_t h), if_pos (bP_t h')]
theorem perr_0 {c : Cat} {ps : List (List Int)} (h : pairErr c ps = 0) : RngL c ps ∧ Par2L c ps := by
  by_cases h1 : RngL c ps
  · by_cases h2 : Par2L c ps
    · exact ⟨h1, h2⟩
    · rw [perr_s h1 h2] at h; omega
  · rw [perr_r h1] at h; omega
noncomputable def fCongruenceOf (c : Cat) (ps : List (List Int)) : List Int × Int := if fIsCategory c = true then (if pairErr c ps = 0 then (clsOf (specL c.s.length (spread c ps)), 0) else ([], pairErr c ps)) else ([], 1)
theorem cgo_f {c : Cat} {ps : List (List Int)} (h : fIsCategory c = false) : fCongruenceOf c ps = ([], 1) := if_neg (by rw [h]; decide)
theorem cgo_e {c : Cat} {ps : List (List Int)} (h : fIsCategory c = true) (h' : ¬ pairErr c ps = 0) : fCongruenceOf c ps = ([], pairErr c ps) := by unfold fCongruenceOf; rw [if_pos h, if_neg h']
theorem cgo_t {c : Cat} {ps : List (List Int)} (h : fIsCategory c = true) (h' : pairErr c ps = 0) : fCongruenceOf c ps = (clsOf (specL c.s.length (spread c ps)), 0) := by unfold fCongruenceOf; rw [if_pos h, if_pos h']
theorem rng_two {c : Cat} {q : List Int} (h : AllP c.s.length q) (hl : q.length = 2) : (0 ≤ at0 q 0 ∧ at0 q 0 < c.s.length) ∧ 0 ≤ at0 q 1 ∧ at0 q 1 < c.s.length := ⟨allP_at h (k := 0) (by omega), allP_at h (k := 1) (by omega)⟩

set_option maxHeartbeats 1000000 in
set_option maxRecDepth 100000 in
theorem spec_CongruenceOf (w : World) (v : Value) (c : Cat) (u : Value) (ps : List (List Int)) (h : RdC w v c) (hu : Rd2 w u ps) (hl : ps.length ≤ 1048576) :
    Calls Try.prog 55 #[v, u] w (RetLI w (fCongruenceOf c ps).1 (fCongruenceOf c ps).2) := by
  have h0 := h
  obtain ⟨va, vb, vc, vd, ve, vf, vg, vh, rfl, h1, h2, h3, h4, _⟩ := h.lists
  obtain ⟨ua, uc, rfl⟩ := rd2_form hu
  go_enter Try.func55, Try.ntmps55
  refine gc_enter (N := 59) rfl (look_cons (k := 0) rfl (look_cons (k := 1) rfl (look_nil _))) ?_
  refine gc_seq fun K1 hK1 => ?_
  refine gc_region ?_
  refine g_op (.free rfl) fun K3 hK3 => ?_
  refine go_box rfl rfl rfl rfl rfl ?_
  intro B2
  refine hK3 _ _ ?_
  refine g_v (.free rfl) rfl rfl (qt_assign rfl rfl) ?_
  refine g_v (.free rfl) rfl rfl (qt_assign rfl rfl) ?_
  refine g_nil ?_
  refine gk_then (hK1 _ _ ?_)
  refine gc_seq fun K4 hK4 => ?_
  refine gc_seq fun K5 hK5 => ?_
  refine gc_region ?_
  refine g_v (.free rfl) rfl rfl (qt_assign rfl rfl) ?_
  refine g_nil ?_
  refine gk_then (hK5 _ _ ?_)
  refine gc_block ?_
  try simp only [List.nil_append, List.cons_append, List.append_assoc, List.set_cons_succ, List.set_cons_zero]
  refine gc_loop ([(0, _), (1, _), (2, _)] : Env) (fun s : Nat => (fun (k : Nat) => ([(6, .int .i64 (k : Int))] : Env)) s) (fun s : Nat => (fun (k : Nat) => ([] : List (Nat × Itm))) s) (fun s : Nat => (fun (k : Nat) => k ≤ ps.length ∧ ∀ j : Nat, j < k → fIsCategory c = true → AllP c.s.length (row2 ps (j : Int))) s) (fun s : Nat => (fun (k : Nat) => ps.length - k) s) (0) (sub_cons rfl (sub_cons rfl (sub_cons rfl (sub_cons rfl sub_nil)))) rfl ⟨Nat.zero_le _, fun f hf => absurd hf (by omega)⟩ ?_
  rintro k hinv KL6 hKL6
  simp only [updL, List.foldl_cons, List.foldl_nil, List.set_cons_succ, List.set_cons_zero, List.cons_append, List.nil_append] at hinv hKL6 ⊢
  obtain ⟨hk, hall⟩ := hinv
  refine gc_seq fun K7 hK7 => ?_
  refine gc_seq fun K8 hK8 => ?_
  refine gc_region ?_
  refine g_v (.free rfl) rfl rfl (qt_move rfl rfl) ?_
  refine g_v (.free rfl) rfl rfl (qt_move rfl rfl) ?_
  refine g_v (.free rfl) rfl rfl (qt_len rfl rfl ulE2 (fun w M => lenV_rd2 hu)) ?_
  refine g_v (.free rfl) rfl rfl (qt_lss rfl rfl rfl) ?_
  refine g_nil ?_
  refine gk_then (hK8 _ _ ?_)
  refine gc_cond rfl (fun hc0 => ?_) (fun hc0 => ?_)
  · try simp only [decide_eq_true_eq, decide_eq_false_iff_not, Bool.not_eq_true', Bool.not_eq_false', Bool.not_eq_eq_eq_not, Bool.not_true, Bool.not_false, ne_eq, Decidable.not_not, Classical.not_not] at hc0
    refine gc_skip ?_
    refine gk_then (hK7 _ _ ?_)
    refine gc_seq fun K9 hK9 => ?_
    refine gc_block ?_
    refine gc_seq fun K10 hK10 => ?_
    refine gc_draw (by kernel_rfl) ?_
    refine gd_v (.free rfl) rfl rfl (qt_loadS (n := 0) rfl rfl Try.underlying27 rfl (by kernel_rfl) rfl) ?_
    refine gd_v (.free rfl) rfl rfl (qt_move rfl rfl) ?_
    refine gd_v (.free rfl) rfl rfl (qt_move rfl rfl) ?_
    refine gd_v (.free rfl) rfl rfl (qt_index rfl rfl rfl ulE2 szE2 (fun w M => lenA_rd2 hu) (by omega) (by omega)) ?_
    refine gd_load2 (.free rfl) rfl rfl rfl rfl Try.underlying24 rfl hu (by omega) (by omega) ?_
    intro ra11 rc11 hr11
    refine gd_q (.free rfl) rfl rfl (qt_call rfl Try.func115 rfl (by decide) rfl (fun w M => specarr_any w _ _ _ _ (mem_rdC M h0) (mem_rd M hr11))) ?_
    refine gd_v (.free rfl) rfl rfl (qt_assign rfl rfl) ?_
    refine gd_nil ?_
    refine gk_then (hK10 _ _ ?_)
    refine gc_seq fun K12 hK12 => ?_
    refine gc_region ?_
    refine g_v (.free rfl) rfl rfl (qt_move rfl rfl) ?_
    refine g_v (.free rfl) rfl rfl (qt_neq rfl rfl rfl) ?_
    refine g_nil ?_
    refine gk_then (hK12 _ _ ?_)
    refine gc_cond rfl (fun hc1 => ?_) (fun hc1 => ?_)
    · try simp only [decide_eq_true_eq, decide_eq_false_iff_not, Bool.not_eq_true', Bool.not_eq_false', Bool.not_eq_eq_eq_not, Bool.not_true, Bool.not_false, ne_eq, Decidable.not_not, Classical.not_not] at hc1
      refine gc_seq fun K13 hK13 => ?_
      refine gc_region ?_
      refine g_v (.free rfl) rfl rfl (qt_move rfl rfl) ?_
      refine g_v (.free rfl) rfl rfl (qt_assign rfl rfl) ?_
      refine g_v (.free rfl) rfl rfl (qt_assign rfl rfl) ?_
      refine g_nil ?_
      refine gk_then (hK13 _ _ ?_)
      refine gc_ret ?_
      refine gk_block_ret ?_
      refine gk_then_ret ?_
      refine gk_then_ret ?_
      refine gk_block_ret ?_
      refine gk_then_ret ?_
      refine ret_2 rfl rfl rfl  (fun w M => ?_)
      cases hI : fIsCategory c with
      | false => rw [arrErr_f hI, cgo_f hI]; exact ⟨_, rfl, Sl.nil _ _, M.1⟩
      | true =>
        have hn : ¬ AllP c.s.length (row2 ps (k : Int)) := fun hh => hc1 (arrErr_t hI hh)
        have hn2 : ¬ RngL c ps := fun hh => hn (hh k (by omega))
        rw [arrErr_r hI hn, cgo_e hI (by rw [perr_r hn2]; decide), perr_r hn2]; exact ⟨_, rfl, Sl.nil _ _, M.1⟩
    · try simp only [decide_eq_true_eq, decide_eq_false_iff_not, Bool.not_eq_true', Bool.not_eq_false', Bool.not_eq_eq_eq_not, Bool.not_true, Bool.not_false, ne_eq, Decidable.not_not, Classical.not_not] at hc1
      refine gc_skip ?_
      refine gk_block ?_
      refine gk_then (hK9 _ _ ?_)
      refine gc_region ?_
      refine g_v (.free rfl) rfl rfl (qt_move rfl rfl) ?_
      refine g_v (.free rfl) rfl rfl (qt_add rfl rfl rfl (by omega)) ?_
      refine g_v (.free rfl) rfl rfl (qt_assign rfl rfl) ?_
      refine g_nil ?_
      refine gk_then (gk_take 1 ?_)
      refine gk_sub ?hs_14 (hKL6 (k + 1) ?hi_14 ?hm_14)
      case hs_14 => exact (sub_cons rfl (sub_cons rfl (sub_cons rfl (sub_cons rfl sub_nil))))
      case hi_14 => exact ⟨by omega, all_next hall fun _ => (arrErr_0 hc1).2⟩
      case hm_14 => omega
  · try simp only [decide_eq_true_eq, decide_eq_false_iff_not, Bool.not_eq_true', Bool.not_eq_false', Bool.not_eq_eq_eq_not, Bool.not_true, Bool.not_false, ne_eq, Decidable.not_not, Classical.not_not] at hc0
    refine gc_exit ?_
    refine gk_then_exit ?_
    refine gk_then_exit ?_
    refine gk_block_hit ?_
    refine gk_then (hK4 _ _ ?_)
    refine gc_seq fun K15 hK15 => ?_
    refine gc_seq fun K16 hK16 => ?_
    obtain rfl : k = ps.length := by omega
    refine gc_region ?_
    refine g_v (.free rfl) rfl rfl (qt_loadS (n := 0) rfl rfl Try.underlying27 rfl (by kernel_rfl) rfl) ?_
    refine g_q (.free rfl) rfl rfl (qt_call rfl Try.func84 rfl (by decide) rfl (fun w M => specIs_any w _ _ (mem_rdC M h0))) ?_
    refine g_v (.free rfl) rfl rfl (qt_not rfl rfl) ?_
    refine g_nil ?_
    refine gk_then (hK16 _ _ ?_)
    refine gc_cond rfl (fun hc2 => ?_) (fun hc2 => ?_)
    · try simp only [decide_eq_true_eq, decide_eq_false_iff_not, Bool.not_eq_true', Bool.not_eq_false', Bool.not_eq_eq_eq_not, Bool.not_true, Bool.not_false, ne_eq, Decidable.not_not, Classical.not_not] at hc2
      refine gc_seq fun K17 hK17 => ?_
      refine gc_region ?_
      refine g_v (.free rfl) rfl rfl (qt_assign rfl rfl) ?_
      refine g_v (.free rfl) rfl rfl (qt_assign rfl rfl) ?_
      refine g_nil ?_
      refine gk_then (hK17 _ _ ?_)
      refine gc_ret ?_
      refine gk_then_ret ?_
      refine ret_2 rfl rfl rfl  (fun w M => ?_)
      rw [cgo_f hc2]; exact ⟨_, rfl, Sl.nil _ _, M.1⟩
    · try simp only [decide_eq_true_eq, decide_eq_false_iff_not, Bool.not_eq_true', Bool.not_eq_false', Bool.not_eq_eq_eq_not, Bool.not_true, Bool.not_false, ne_eq, Decidable.not_not, Classical.not_not] at hc2
      refine gc_skip ?_
      refine gk_then (hK15 _ _ ?_)
      refine gc_seq fun K18 hK18 => ?_
      refine gc_seq fun K19 hK19 => ?_
      have hC := isCat_of hc2
      have hR : RngL c ps := fun k hk => hall k hk hc2
      have hS := hC.toShapeP
      have hn40 := hS.n40; have htl := hS.tl; have hel := hS.el; have hob0 := hS.ob0; have hob8 := hS.ob8; have hml := hS.ml
      refine gc_region ?_
      refine g_v (.free rfl) rfl rfl (qt_assign rfl rfl) ?_
      refine g_nil ?_
      refine gk_then (hK19 _ _ ?_)
      refine gc_block ?_
      try simp only [List.nil_append, List.cons_append, List.append_assoc, List.set_cons_succ, List.set_cons_zero]
      refine gc_loop ([(0, _), (1, _), (2, _), (6, _), (12, _), (26, _)] : Env) (fun s : Nat => (fun (j : Nat) => ([(8, .int .i64 (j : Int))] : Env)) s) (fun s : Nat => (fun (j : Nat) => ([] : List (Nat × Itm))) s) (fun s : Nat => (fun (j : Nat) => j ≤ ps.length ∧ ∀ i : Nat, i < j → par2 c (row2 ps (i : Int))) s) (fun s : Nat => (fun (j : Nat) => ps.length - j) s) (0) (sub_cons rfl (sub_cons rfl (sub_cons rfl (sub_cons rfl (sub_cons rfl (sub_cons rfl (sub_cons rfl sub_nil))))))) rfl ⟨Nat.zero_le _, fun f hf => absurd hf (by omega)⟩ ?_
      rintro j hinv KL20 hKL20
      simp only [updL, List.foldl_cons, List.foldl_nil, List.set_cons_succ, List.set_cons_zero, List.cons_append, List.nil_append] at hinv hKL20 ⊢
      obtain ⟨hj, hall2⟩ := hinv
      refine gc_seq fun K21 hK21 => ?_
      refine gc_seq fun K22 hK22 => ?_
      refine gc_region ?_
      refine g_v (.free rfl) rfl rfl (qt_move rfl rfl) ?_
      refine g_v (.free rfl) rfl rfl (qt_move rfl rfl) ?_
      refine g_v (.free rfl) rfl rfl (qt_len rfl rfl ulE2 (fun w M => lenV_rd2 hu)) ?_
      refine g_v (.free rfl) rfl rfl (qt_lss rfl rfl rfl) ?_
      refine g_nil ?_
      refine gk_then (hK22 _ _ ?_)
      refine gc_cond rfl (fun hc3 => ?_) (fun hc3 => ?_)
      · try simp only [decide_eq_true_eq, decide_eq_false_iff_not, Bool.not_eq_true', Bool.not_eq_false', Bool.not_eq_eq_eq_not, Bool.not_true, Bool.not_false, ne_eq, Decidable.not_not, Classical.not_not] at hc3
        refine gc_skip ?_
        refine gk_then (hK21 _ _ ?_)
        refine gc_seq fun K23 hK23 => ?_
        refine gc_block ?_
        refine gc_seq fun K24 hK24 => ?_
        have hq := hR j (by omega)
        refine gc_draw (by kernel_rfl) ?_
        refine gd_v (.free rfl) rfl rfl (qt_move rfl rfl) ?_
        refine gd_v (.free rfl) rfl rfl (qt_move rfl rfl) ?_
        refine gd_v (.free rfl) rfl rfl (qt_index rfl rfl rfl ulE2 szE2 (fun w M => lenA_rd2 hu) (by omega) (by omega)) ?_
        refine gd_load2 (.free rfl) rfl rfl rfl rfl Try.underlying24 rfl hu (by omega) (by omega) ?_
        intro ra25 rc25 hr25
        refine gd_v (.free rfl) rfl rfl (qt_len rfl rfl ulE1 (fun w M => lenV_rd hr25)) ?_
        refine gd_v (.free rfl) rfl rfl (qt_neq rfl rfl rfl) ?_
        refine gd_splitv (.free rfl) rfl rfl (qt_move rfl rfl) (fun hs12_6 => ?_) (fun hs12_6 => ?_)
        · try simp only [decide_eq_true_eq, decide_eq_false_iff_not, Bool.not_eq_true', Bool.not_eq_false', Bool.not_eq_eq_eq_not, Bool.not_true, Bool.not_false, ne_eq, Decidable.not_not, Classical.not_not] at hs12_6
          refine gd_skip (.not _ _ _ _ rfl rfl rfl rfl) rfl rfl ?_
          refine gd_skip (.not _ _ _ _ rfl rfl rfl rfl) rfl rfl ?_
          refine gd_skip (.not _ _ _ _ rfl rfl rfl rfl) rfl rfl ?_
          refine gd_skip (.not _ _ _ _ rfl rfl rfl rfl) rfl rfl ?_
          refine gd_skip (.not _ _ _ _ rfl rfl rfl rfl) rfl rfl ?_
          refine gd_skip (.not _ _ _ _ rfl rfl rfl rfl) rfl rfl ?_
          refine gd_skip (.not _ _ _ _ rfl rfl rfl rfl) rfl rfl ?_
          refine gd_skip (.not _ _ _ _ rfl rfl rfl rfl) rfl rfl ?_
          refine gd_skip (.not _ _ _ _ rfl rfl rfl rfl) rfl rfl ?_
          refine gd_skip (.not _ _ _ _ rfl rfl rfl rfl) rfl rfl ?_
          refine gd_skip (.not _ _ _ _ rfl rfl rfl rfl) rfl rfl ?_
          refine gd_skip (.not _ _ _ _ rfl rfl rfl rfl) rfl rfl ?_
          refine gd_skip (.not _ _ _ _ rfl rfl rfl rfl) rfl rfl ?_
          refine gd_skip (.not _ _ _ _ rfl rfl rfl rfl) rfl rfl ?_
          refine gd_skip (.not _ _ _ _ rfl rfl rfl rfl) rfl rfl ?_
          refine gd_v (.free rfl) rfl rfl (qt_pick_t rfl rfl rfl) ?_
          refine gd_nil ?_
          refine gk_then (hK24 _ _ ?_)
          refine gc_cond_t rfl ?_
          refine gc_seq fun K26 hK26 => ?_
          refine gc_region ?_
          refine g_v (.free rfl) rfl rfl (qt_assign rfl rfl) ?_
          refine g_v (.free rfl) rfl rfl (qt_assign rfl rfl) ?_
          refine g_nil ?_
          refine gk_then (hK26 _ _ ?_)
          refine gc_ret ?_
          refine gk_block_ret ?_
          refine gk_then_ret ?_
          refine gk_then_ret ?_
          refine gk_block_ret ?_
          refine gk_then_ret ?_
          refine ret_2 rfl rfl rfl  (fun w M => ?_)
          have hn2 : ¬ Par2L c ps := fun hh => hs12_6 (by have := (hh j (by omega)).1; omega); rw [cgo_e hc2 (by rw [perr_s hR hn2]; decide), perr_s hR hn2]; exact ⟨_, rfl, Sl.nil _ _, M.1⟩
        · try simp only [decide_eq_true_eq, decide_eq_false_iff_not, Bool.not_eq_true', Bool.not_eq_false', Bool.not_eq_eq_eq_not, Bool.not_true, Bool.not_false, ne_eq, Decidable.not_not, Classical.not_not] at hs12_6
          have hq2 := rng_two hq (by omega)
          have q1 := hq2.1.1; have q2 := hq2.1.2; have q3 := hq2.2.1; have q4 := hq2.2.2
          refine gd_v (.held _ _ _ rfl rfl rfl) rfl rfl (qt_loadS (n := 0) rfl rfl Try.underlying27 rfl (by kernel_rfl) rfl) ?_
          refine gd_v (.held _ _ _ rfl rfl rfl) rfl rfl (qt_move rfl rfl) ?_
          refine gd_v (.held _ _ _ rfl rfl rfl) rfl rfl (qt_move rfl rfl) ?_
          refine gd_v (.held _ _ _ rfl rfl rfl) rfl rfl (qt_index rfl rfl rfl ulE2 szE2 (fun w M => lenA_rd2 hu) (by omega) (by omega)) ?_
          refine gd_load2 (.held _ _ _ rfl rfl rfl) rfl rfl rfl rfl Try.underlying24 rfl hu (by omega) (by omega) ?_
          intro ra27 rc27 hr27
          refine gd_v (.held _ _ _ rfl rfl rfl) rfl rfl (qt_index rfl rfl rfl ulE1 szE1 (fun w M => lenA_rd hr27) (by omega) (by omega)) ?_
          refine gd_v (.held _ _ _ rfl rfl rfl) rfl rfl (qt_load1 rfl rfl Try.underlying2 rfl (fun w M => mem_rd M hr27) (by omega) (by omega)) ?_
          refine gd_v (.held _ _ _ rfl rfl rfl) rfl rfl (qt_move rfl rfl) ?_
          refine gd_v (.held _ _ _ rfl rfl rfl) rfl rfl (qt_move rfl rfl) ?_
          refine gd_v (.held _ _ _ rfl rfl rfl) rfl rfl (qt_index rfl rfl rfl ulE2 szE2 (fun w M => lenA_rd2 hu) (by omega) (by omega)) ?_
          refine gd_load2 (.held _ _ _ rfl rfl rfl) rfl rfl rfl rfl Try.underlying24 rfl hu (by omega) (by omega) ?_
          intro ra28 rc28 hr28
          refine gd_v (.held _ _ _ rfl rfl rfl) rfl rfl (qt_index rfl rfl rfl ulE1 szE1 (fun w M => lenA_rd hr28) (by omega) (by omega)) ?_
          refine gd_v (.held _ _ _ rfl rfl rfl) rfl rfl (qt_load1 rfl rfl Try.underlying2 rfl (fun w M => mem_rd M hr28) (by omega) (by omega)) ?_
          refine gd_q (.held _ _ _ rfl rfl rfl) rfl rfl (qt_call rfl Try.func116 rfl (by decide) rfl (fun w M => specPar_any w _ _ (mem_rdC M h0) _ _ (by first | assumption | omega) (by first | assumption | omega) (by first | assumption | omega) (by first | assumption | omega) (by first | assumption | omega))) ?_
          refine gd_v (.held _ _ _ rfl rfl rfl) rfl rfl (qt_not rfl rfl) ?_
          refine gd_v (.free rfl) rfl rfl (qt_pick_f rfl rfl rfl) ?_
          refine gd_nil ?_
          refine gk_then (hK24 _ _ ?_)
          refine gc_cond rfl (fun hc4 => ?_) (fun hc4 => ?_)
          · try simp only [decide_eq_true_eq, decide_eq_false_iff_not, Bool.not_eq_true', Bool.not_eq_false', Bool.not_eq_eq_eq_not, Bool.not_true, Bool.not_false, ne_eq, Decidable.not_not, Classical.not_not] at hc4
            refine gc_seq fun K29 hK29 => ?_
            refine gc_region ?_
            refine g_v (.free rfl) rfl rfl (qt_assign rfl rfl) ?_
            refine g_v (.free rfl) rfl rfl (qt_assign rfl rfl) ?_
            refine g_nil ?_
            refine gk_then (hK29 _ _ ?_)
            refine gc_ret ?_
            refine gk_block_ret ?_
            refine gk_then_ret ?_
            refine gk_then_ret ?_
            refine gk_block_ret ?_
            refine gk_then_ret ?_
            refine ret_2 rfl rfl rfl  (fun w M => ?_)
            have hn2 : ¬ Par2L c ps := fun hh => bP_f' hc4 (hh j (by omega)).2; rw [cgo_e hc2 (by rw [perr_s hR hn2]; decide), perr_s hR hn2]; exact ⟨_, rfl, Sl.nil _ _, M.1⟩
          · try simp only [decide_eq_true_eq, decide_eq_false_iff_not, Bool.not_eq_true', Bool.not_eq_false', Bool.not_eq_eq_eq_not, Bool.not_true, Bool.not_false, ne_eq, Decidable.not_not, Classical.not_not] at hc4
            refine gc_skip ?_
            refine gk_block ?_
            refine gk_then (hK23 _ _ ?_)
            refine gc_region ?_
            refine g_v (.free rfl) rfl rfl (qt_move rfl rfl) ?_
            refine g_v (.free rfl) rfl rfl (qt_add rfl rfl rfl (by omega)) ?_
            refine g_v (.free rfl) rfl rfl (qt_assign rfl rfl) ?_
            refine g_nil ?_
            refine gk_then (gk_take 1 ?_)
            refine gk_sub ?hs_30 (hKL20 (j + 1) ?hi_30 ?hm_30)
            case hs_30 => exact (sub_cons rfl (sub_cons rfl (sub_cons rfl (sub_cons rfl (sub_cons rfl (sub_cons rfl (sub_cons rfl sub_nil)))))))
            case hi_30 => exact ⟨by omega, all_next hall2 ⟨by omega, bP_t' hc4⟩⟩
            case hm_30 => omega
      · try simp only [decide_eq_true_eq, decide_eq_false_iff_not, Bool.not_eq_true', Bool.not_eq_false', Bool.not_eq_eq_eq_not, Bool.not_true, Bool.not_false, ne_eq, Decidable.not_not, Classical.not_not] at hc3
        refine gc_exit ?_
        refine gk_then_exit ?_
        refine gk_then_exit ?_
        refine gk_block_hit ?_
        refine gk_then (hK18 _ _ ?_)
        refine gc_seq fun K31 hK31 => ?_
        obtain rfl : j = ps.length := by omega
        have hP : Par2L c ps := hall2
        refine gc_region ?_
        refine g_v (.free rfl) rfl rfl (qt_loadS (n := 0) rfl rfl Try.underlying27 rfl (by kernel_rfl) rfl) ?_
        refine g_v (.free rfl) rfl rfl (qt_move rfl rfl) ?_
        refine g_op (.free rfl) fun K33 hK33 => ?_
        refine go_callL rfl rfl rfl Try.func117 rfl (by decide) rfl (fun w M => specSpread_any w _ _ (mem_rdC M h0) _ _ (mem_rd2 M hu) (hC) (parL_of hR hP) (by first | assumption | omega)) ?_
        intro va32 vc32
        refine hK33 _ _ ?_
        refine g_v (.free rfl) rfl rfl (qt_assign rfl rfl) ?_
        refine g_v (.free rfl) rfl rfl (qt_assign rfl rfl) ?_
        refine g_nil ?_
        refine gk_then (hK31 _ _ ?_)
        refine gc_ret ?_
        refine ret_2 rfl rfl rfl  (fun w M => ?_)
        rw [cgo_t hc2 (perr_t hR hP)]
        exact ⟨_, rfl, mem_own1 (n := 1) M rfl, M.1⟩

set_option maxHeartbeats 1000000 in
set_option maxRecDepth 100000 in
theorem checkPairs_any (w : World) (v : Value) (c : Cat) (h : RdC w v c) (u : Value) (ps : List (List Int)) (hu : Rd2 w u ps) (htl : c.t.length = c.s.length) :
    Calls Try.prog 118 #[v, u] w (RetI w (pairErr c ps)) := by
  have h0 := h
  obtain ⟨va, vb, vc, vd, ve, vf, vg, vh, rfl, h1, h2, h3, h4, _⟩ := h.lists
  obtain ⟨ua, uc, rfl⟩ := rd2_form hu
  have hul := rd2_len hu
  go_enter Try.func118, Try.ntmps118
  refine gc_enter (N := 43) rfl (look_cons (k := 0) rfl (look_cons (k := 1) rfl (look_nil _))) ?_
  refine gc_seq fun K1 hK1 => ?_
  refine gc_region ?_
  refine g_op (.free rfl) fun K3 hK3 => ?_
  refine go_box rfl rfl rfl rfl rfl ?_
  intro B2
  refine hK3 _ _ ?_
  refine g_v (.free rfl) rfl rfl (qt_assign rfl rfl) ?_
  refine g_nil ?_
  refine gk_then (hK1 _ _ ?_)
  refine gc_seq fun K4 hK4 => ?_
  refine gc_seq fun K5 hK5 => ?_
  refine gc_region ?_
  refine g_v (.free rfl) rfl rfl (qt_move rfl rfl) ?_
  refine g_v (.free rfl) rfl rfl (qt_len rfl rfl ulE2 (fun w M => lenV_rd2 hu)) ?_
  refine g_v (.free rfl) rfl rfl (qt_move rfl rfl) ?_
  refine g_nil ?_
  refine gk_then (hK5 _ _ ?_)
  refine gc_block ?_
  try simp only [List.nil_append, List.cons_append, List.append_assoc, List.set_cons_succ, List.set_cons_zero]
  refine gc_loop ([(0, _), (1, _), (2, _), (9, _), (10, _)] : Env) (fun s : Nat => (fun (k : Nat) => ([(11, .int .i64 (k : Int))] : Env)) s) (fun s : Nat => (fun (k : Nat) => ([] : List (Nat × Itm))) s) (fun s : Nat => (fun (k : Nat) => k ≤ ps.length ∧ ∀ j : Nat, j < k → AllP c.s.length (row2 ps (j : Int))) s) (fun s : Nat => (fun (k : Nat) => ps.length - k) s) (0) (sub_cons rfl (sub_cons rfl (sub_cons rfl (sub_cons rfl (sub_cons rfl (sub_cons rfl sub_nil)))))) rfl ⟨Nat.zero_le _, fun f hf => absurd hf (by omega)⟩ ?_
  rintro k hinv KL6 hKL6
  simp only [updL, List.foldl_cons, List.foldl_nil, List.set_cons_succ, List.set_cons_zero, List.cons_append, List.nil_append] at hinv hKL6 ⊢
  obtain ⟨hk, hall⟩ := hinv
  refine gc_seq fun K7 hK7 => ?_
  refine gc_region ?_
  refine g_v (.free rfl) rfl rfl (qt_lss rfl rfl rfl) ?_
  refine g_nil ?_
  refine gk_then (hK7 _ _ ?_)
  refine gc_seq fun K8 hK8 => ?_
  refine gc_cond rfl (fun hc0 => ?_) (fun hc0 => ?_)
  · try simp only [decide_eq_true_eq, decide_eq_false_iff_not, Bool.not_eq_true', Bool.not_eq_false', Bool.not_eq_eq_eq_not, Bool.not_true, Bool.not_false, ne_eq, Decidable.not_not, Classical.not_not] at hc0
    refine gc_skip ?_
    refine gk_then (hK8 _ _ ?_)
    refine gc_seq fun K9 hK9 => ?_
    refine gc_block ?_
    refine gc_seq fun K10 hK10 => ?_
    refine gc_region ?_
    refine g_v (.free rfl) rfl rfl (qt_index rfl rfl rfl ulE2 szE2 (fun w M => lenA_rd2 hu) (by omega) (by omega)) ?_
    refine g_load2 (.free rfl) rfl rfl rfl rfl Try.underlying24 rfl hu (by omega) (by omega) ?_
    intro ra11 rc11 hr11
    refine g_v (.free rfl) rfl rfl (qt_assign rfl rfl) ?_
    refine g_nil ?_
    refine gk_then (hK10 _ _ ?_)
    refine gc_seq fun K12 hK12 => ?_
    refine gc_region ?_
    refine g_v (.free rfl) rfl rfl (qt_loadS (n := 0) rfl rfl Try.underlying27 rfl (by kernel_rfl) rfl) ?_
    refine g_v (.free rfl) rfl rfl (qt_move rfl rfl) ?_
    refine g_q (.free rfl) rfl rfl (qt_call rfl Try.func124 rfl (by decide) rfl (fun w M => hasArrows_any w _ _ _ _ (_) (mem_rdC M h0) (mem_rd M hr11) (rfl))) ?_
    refine g_v (.free rfl) rfl rfl (qt_not rfl rfl) ?_
    refine g_nil ?_
    refine gk_then (hK12 _ _ ?_)
    refine gc_cond rfl (fun hc1 => ?_) (fun hc1 => ?_)
    · try simp only [decide_eq_true_eq, decide_eq_false_iff_not, Bool.not_eq_true', Bool.not_eq_false', Bool.not_eq_eq_eq_not, Bool.not_true, Bool.not_false, ne_eq, Decidable.not_not, Classical.not_not] at hc1
      refine gc_seq fun K13 hK13 => ?_
      refine gc_region ?_
      refine g_v (.free rfl) rfl rfl (qt_assign rfl rfl) ?_
      refine g_nil ?_
      refine gk_then (hK13 _ _ ?_)
      refine gc_ret ?_
      refine gk_block_ret ?_
      refine gk_then_ret ?_
      refine gk_then_ret ?_
      refine gk_block_ret ?_
      refine gk_then_ret ?_
      refine ret_1 rfl rfl  (fun w M => ?_)
      rw [perr_r (fun hh => bP_f' hc1 (hh k (by omega)))]; exact ⟨rfl, M.1⟩
    · try simp only [decide_eq_true_eq, decide_eq_false_iff_not, Bool.not_eq_true', Bool.not_eq_false', Bool.not_eq_eq_eq_not, Bool.not_true, Bool.not_false, ne_eq, Decidable.not_not, Classical.not_not] at hc1
      refine gc_skip ?_
      refine gk_block ?_
      refine gk_then (hK9 _ _ ?_)
      refine gc_region ?_
      refine g_v (.free rfl) rfl rfl (qt_add rfl rfl rfl (by omega)) ?_
      refine g_v (.free rfl) rfl rfl (qt_move rfl rfl) ?_
      refine g_nil ?_
      refine gk_then (gk_take 1 ?_)
      refine gk_sub ?hs_14 (hKL6 (k + 1) ?hi_14 ?hm_14)
      case hs_14 => exact (sub_cons rfl (sub_cons rfl (sub_cons rfl (sub_cons rfl (sub_cons rfl (sub_cons rfl sub_nil))))))
      case hi_14 => exact ⟨by omega, all_next hall (bP_t' hc1)⟩
      case hm_14 => omega
  · try simp only [decide_eq_true_eq, decide_eq_false_iff_not, Bool.not_eq_true', Bool.not_eq_false', Bool.not_eq_eq_eq_not, Bool.not_true, Bool.not_false, ne_eq, Decidable.not_not, Classical.not_not] at hc0
    refine gc_exit ?_
    refine gk_then_exit ?_
    refine gk_then_exit ?_
    refine gk_block_hit ?_
    refine gk_then (hK4 _ _ ?_)
    refine gc_seq fun K15 hK15 => ?_
    refine gc_seq fun K16 hK16 => ?_
    obtain rfl : k = ps.length := by omega
    have hR : RngL c ps := hall
    refine gc_region ?_
    refine g_v (.free rfl) rfl rfl (qt_move rfl rfl) ?_
    refine g_v (.free rfl) rfl rfl (qt_len rfl rfl ulE2 (fun w M => lenV_rd2 hu)) ?_
    refine g_v (.free rfl) rfl rfl (qt_move rfl rfl) ?_
    refine g_nil ?_
    refine gk_then (hK16 _ _ ?_)
    refine gc_block ?_
    try simp only [List.nil_append, List.cons_append, List.append_assoc, List.set_cons_succ, List.set_cons_zero]
    refine gc_loop ([(0, _), (1, _), (2, _), (9, _), (10, _), (11, _), (12, _), (20, _), (21, _)] : Env) (fun s : Nat => (fun (j : Nat) => ([(22, .int .i64 (j : Int))] : Env)) s) (fun s : Nat => (fun (j : Nat) => ([] : List (Nat × Itm))) s) (fun s : Nat => (fun (j : Nat) => j ≤ ps.length ∧ ∀ i : Nat, i < j → par2 c (row2 ps (i : Int))) s) (fun s : Nat => (fun (j : Nat) => ps.length - j) s) (0) (sub_cons rfl (sub_cons rfl (sub_cons rfl (sub_cons rfl (sub_cons rfl (sub_cons rfl (sub_cons rfl (sub_cons rfl (sub_cons rfl (sub_cons rfl sub_nil)))))))))) rfl ⟨Nat.zero_le _, fun f hf => absurd hf (by omega)⟩ ?_
    rintro j hinv KL17 hKL17
    simp only [updL, List.foldl_cons, List.foldl_nil, List.set_cons_succ, List.set_cons_zero, List.cons_append, List.nil_append] at hinv hKL17 ⊢
    obtain ⟨hj, hall2⟩ := hinv
    refine gc_seq fun K18 hK18 => ?_
    refine gc_region ?_
    refine g_v (.free rfl) rfl rfl (qt_lss rfl rfl rfl) ?_
    refine g_nil ?_
    refine gk_then (hK18 _ _ ?_)
    refine gc_seq fun K19 hK19 => ?_
    refine gc_cond rfl (fun hc2 => ?_) (fun hc2 => ?_)
    · try simp only [decide_eq_true_eq, decide_eq_false_iff_not, Bool.not_eq_true', Bool.not_eq_false', Bool.not_eq_eq_eq_not, Bool.not_true, Bool.not_false, ne_eq, Decidable.not_not, Classical.not_not] at hc2
      refine gc_skip ?_
      refine gk_then (hK19 _ _ ?_)
      refine gc_seq fun K20 hK20 => ?_
      refine gc_block ?_
      refine gc_seq fun K21 hK21 => ?_
      refine gc_region ?_
      refine g_v (.free rfl) rfl rfl (qt_index rfl rfl rfl ulE2 szE2 (fun w M => lenA_rd2 hu) (by omega) (by omega)) ?_
      refine g_load2 (.free rfl) rfl rfl rfl rfl Try.underlying24 rfl hu (by omega) (by omega) ?_
      intro ra22 rc22 hr22
      refine g_v (.free rfl) rfl rfl (qt_assign rfl rfl) ?_
      refine g_nil ?_
      refine gk_then (hK21 _ _ ?_)
      refine gc_seq fun K23 hK23 => ?_
      have hq := hR j (by omega)
      refine gc_draw (by kernel_rfl) ?_
      refine gd_v (.free rfl) rfl rfl (qt_move rfl rfl) ?_
      refine gd_v (.free rfl) rfl rfl (qt_len rfl rfl ulE1 (fun w M => lenV_rd hr22)) ?_
      refine gd_v (.free rfl) rfl rfl (qt_neq rfl rfl rfl) ?_
      refine gd_splitv (.free rfl) rfl rfl (qt_move rfl rfl) (fun hs10_3 => ?_) (fun hs10_3 => ?_)
      · try simp only [decide_eq_true_eq, decide_eq_false_iff_not, Bool.not_eq_true', Bool.not_eq_false', Bool.not_eq_eq_eq_not, Bool.not_true, Bool.not_false, ne_eq, Decidable.not_not, Classical.not_not] at hs10_3
        refine gd_skip (.not _ _ _ _ rfl rfl rfl rfl) rfl rfl ?_
        refine gd_skip (.not _ _ _ _ rfl rfl rfl rfl) rfl rfl ?_
        refine gd_skip (.not _ _ _ _ rfl rfl rfl rfl) rfl rfl ?_
        refine gd_skip (.not _ _ _ _ rfl rfl rfl rfl) rfl rfl ?_
        refine gd_skip (.not _ _ _ _ rfl rfl rfl rfl) rfl rfl ?_
        refine gd_skip (.not _ _ _ _ rfl rfl rfl rfl) rfl rfl ?_
        refine gd_skip (.not _ _ _ _ rfl rfl rfl rfl) rfl rfl ?_
        refine gd_skip (.not _ _ _ _ rfl rfl rfl rfl) rfl rfl ?_
        refine gd_skip (.not _ _ _ _ rfl rfl rfl rfl) rfl rfl ?_
        refine gd_skip (.not _ _ _ _ rfl rfl rfl rfl) rfl rfl ?_
        refine gd_skip (.not _ _ _ _ rfl rfl rfl rfl) rfl rfl ?_
        refine gd_v (.free rfl) rfl rfl (qt_pick_t rfl rfl rfl) ?_
        refine gd_nil ?_
        refine gk_then (hK23 _ _ ?_)
        refine gc_cond_t rfl ?_
        refine gc_seq fun K24 hK24 => ?_
        refine gc_region ?_
        refine g_v (.free rfl) rfl rfl (qt_assign rfl rfl) ?_
        refine g_nil ?_
        refine gk_then (hK24 _ _ ?_)
        refine gc_ret ?_
        refine gk_block_ret ?_
        refine gk_then_ret ?_
        refine gk_then_ret ?_
        refine gk_block_ret ?_
        refine gk_then_ret ?_
        refine ret_1 rfl rfl  (fun w M => ?_)
        rw [perr_s hR (fun hh => hs10_3 (by have := (hh j (by omega)).1; omega))]; exact ⟨rfl, M.1⟩
      · try simp only [decide_eq_true_eq, decide_eq_false_iff_not, Bool.not_eq_true', Bool.not_eq_false', Bool.not_eq_eq_eq_not, Bool.not_true, Bool.not_false, ne_eq, Decidable.not_not, Classical.not_not] at hs10_3
        have hq2 := rng_two hq (by omega)
        have q1 := hq2.1.1; have q2 := hq2.1.2; have q3 := hq2.2.1; have q4 := hq2.2.2
        refine gd_v (.held _ _ _ rfl rfl rfl) rfl rfl (qt_loadS (n := 0) rfl rfl Try.underlying27 rfl (by kernel_rfl) rfl) ?_
        refine gd_v (.held _ _ _ rfl rfl rfl) rfl rfl (qt_move rfl rfl) ?_
        refine gd_v (.held _ _ _ rfl rfl rfl) rfl rfl (qt_index rfl rfl rfl ulE1 szE1 (fun w M => lenA_rd hr22) (by omega) (by omega)) ?_
        refine gd_v (.held _ _ _ rfl rfl rfl) rfl rfl (qt_load1 rfl rfl Try.underlying2 rfl (fun w M => mem_rd M hr22) (by omega) (by omega)) ?_
        refine gd_q (.held _ _ _ rfl rfl rfl) rfl rfl (qt_call rfl Try.func111 rfl (by decide) rfl (fun w M => ends_any w _ _ _ (mem_rdC M h0) (by first | assumption | omega) (by first | assumption | omega) (by first | assumption | omega))) ?_
        refine gd_v (.held _ _ _ rfl rfl rfl) rfl rfl (qt_loadS (n := 0) rfl rfl Try.underlying27 rfl (by kernel_rfl) rfl) ?_
        refine gd_v (.held _ _ _ rfl rfl rfl) rfl rfl (qt_move rfl rfl) ?_
        refine gd_v (.held _ _ _ rfl rfl rfl) rfl rfl (qt_index rfl rfl rfl ulE1 szE1 (fun w M => lenA_rd hr22) (by omega) (by omega)) ?_
        refine gd_v (.held _ _ _ rfl rfl rfl) rfl rfl (qt_load1 rfl rfl Try.underlying2 rfl (fun w M => mem_rd M hr22) (by omega) (by omega)) ?_
        refine gd_q (.held _ _ _ rfl rfl rfl) rfl rfl (qt_call rfl Try.func111 rfl (by decide) rfl (fun w M => ends_any w _ _ _ (mem_rdC M h0) (by first | assumption | omega) (by first | assumption | omega) (by first | assumption | omega))) ?_
        refine gd_v (.held _ _ _ rfl rfl rfl) rfl rfl (qt_neA rfl rfl rfl (fun w => eqA_arrowEnds _ _ _ _ w) eqG_arrowEnds) ?_
        refine gd_v (.free rfl) rfl rfl (qt_pick_f rfl rfl rfl) ?_
        refine gd_nil ?_
        refine gk_then (hK23 _ _ ?_)
        refine gc_cond rfl (fun hc3 => ?_) (fun hc3 => ?_)
        · try simp only [decide_eq_true_eq, decide_eq_false_iff_not, Bool.not_eq_true', Bool.not_eq_false', Bool.not_eq_eq_eq_not, Bool.not_true, Bool.not_false, ne_eq, Decidable.not_not, Classical.not_not] at hc3
          refine gc_seq fun K25 hK25 => ?_
          refine gc_region ?_
          refine g_v (.free rfl) rfl rfl (qt_assign rfl rfl) ?_
          refine g_nil ?_
          refine gk_then (hK25 _ _ ?_)
          refine gc_ret ?_
          refine gk_block_ret ?_
          refine gk_then_ret ?_
          refine gk_then_ret ?_
          refine gk_block_ret ?_
          refine gk_then_ret ?_
          refine ret_1 rfl rfl  (fun w M => ?_)
          rw [perr_s hR (fun hh => absurd (hh j (by omega)).2 hc3)]; exact ⟨rfl, M.1⟩
        · try simp only [decide_eq_true_eq, decide_eq_false_iff_not, Bool.not_eq_true', Bool.not_eq_false', Bool.not_eq_eq_eq_not, Bool.not_true, Bool.not_false, ne_eq, Decidable.not_not, Classical.not_not] at hc3
          refine gc_skip ?_
          refine gk_block ?_
          refine gk_then (hK20 _ _ ?_)
          refine gc_region ?_
          refine g_v (.free rfl) rfl rfl (qt_add rfl rfl rfl (by omega)) ?_
          refine g_v (.free rfl) rfl rfl (qt_move rfl rfl) ?_
          refine g_nil ?_
          refine gk_then (gk_take 1 ?_)
          refine gk_sub ?hs_26 (hKL17 (j + 1) ?hi_26 ?hm_26)
          case hs_26 => exact (sub_cons rfl (sub_cons rfl (sub_cons rfl (sub_cons rfl (sub_cons rfl (sub_cons rfl (sub_cons rfl (sub_cons rfl (sub_cons rfl (sub_cons rfl sub_nil))))))))))
          case hi_26 => exact ⟨by omega, all_next hall2 ⟨by omega, by assumption⟩⟩
          case hm_26 => omega
    · try simp only [decide_eq_true_eq, decide_eq_false_iff_not, Bool.not_eq_true', Bool.not_eq_false', Bool.not_eq_eq_eq_not, Bool.not_true, Bool.not_false, ne_eq, Decidable.not_not, Classical.not_not] at hc2
      refine gc_exit ?_
      refine gk_then_exit ?_
      refine gk_then_exit ?_
      refine gk_block_hit ?_
      refine gk_then (hK15 _ _ ?_)
      refine gc_seq fun K27 hK27 => ?_
      obtain rfl : j = ps.length := by omega
      have hP : Par2L c ps := hall2
      refine gc_region ?_
      refine g_v (.free rfl) rfl rfl (qt_assign rfl rfl) ?_
      refine g_nil ?_
      refine gk_then (hK27 _ _ ?_)
      refine gc_ret ?_
      refine ret_1 rfl rfl  (fun w M => ?_)
      rw [perr_t hR hP]; exact ⟨rfl, M.1⟩

set_option maxHeartbeats 1000000 in
set_option maxRecDepth 100000 in
theorem joinComp_any (w0 w : World) (Rr : Itm) (c : Cat) (vs vt ve vm lv : Value) (hrd : ∀ w S, Rr.p w S → RdC w (.agg #[.int .i64 c.ob, vs, vt, ve, vm]) c) (R : List Int) (hRl : R.length = c.s.length) (hS : ShapeP c) (f g : Int) (f0 : 0 ≤ f) (f1 : f < c.s.length) (g0 : 0 ≤ g) (g1 : g < c.s.length) (ps : at0 c.s f = at0 c.s g) (pt : at0 c.t f = at0 c.t g) (M : Mem w0 w [leadI lv R, Rr]) :
    Calls Try.prog 121 #[.agg #[.int .i64 c.ob, vs, vt, ve, vm], lv, .int .i64 f, .int .i64 g] w (fun e w' => e = .returned (.tuple #[]) ∧ Mem w0 w' [leadI lv ((jcL c [f, g] c.s.length 0).foldl implStep R), Rr]) := by
  have hn40 := hS.n40; have htl := hS.tl; have hel := hS.el; have hob0 := hS.ob0; have hob8 := hS.ob8; have hml := hS.ml
  have e0 : at0 [f, g] 0 = f := rfl
  have e1 : at0 [f, g] 1 = g := rfl
  go_enter Try.func121, Try.ntmps121
  refine gc_enterM M (N := 60) rfl (look_cons (k := 0) rfl (look_cons (k := 1) rfl (look_cons (k := 2) rfl (look_cons (k := 3) rfl (look_nil _))))) ?_
  clear M
  refine gc_seq fun K1 hK1 => ?_
  refine gc_region ?_
  refine g_op (.free rfl) fun K3 hK3 => ?_
  refine go_box rfl rfl rfl rfl rfl ?_
  intro B2
  refine hK3 _ _ ?_
  refine g_nil ?_
  refine gk_then (hK1 _ _ ?_)
  refine gc_seq fun K4 hK4 => ?_
  refine gc_region ?_
  refine g_v (.free rfl) rfl rfl (qt_loadS (n := 2) rfl rfl Try.underlying27 rfl (by kernel_rfl) rfl) ?_
  refine g_q (.free rfl) rfl rfl (qt_call rfl Try.func88 rfl (by decide) rfl (fun w M => arrows_any w _ _ ((mem_rdX (n := 1) M rfl hrd)))) ?_
  refine g_v (.free rfl) rfl rfl (qt_move rfl rfl) ?_
  refine g_nil ?_
  refine gk_then (hK4 _ _ ?_)
  refine gc_block ?_
  try simp only [List.nil_append, List.cons_append, List.append_assoc, List.set_cons_succ, List.set_cons_zero]
  refine gc_loop ([(0, _), (1, _), (2, _), (3, _), (4, _), (11, _)] : Env) (fun s : Nat => (fun (a : Nat) => ([(12, .int .i64 (a : Int))] : Env)) s) (fun s : Nat => (fun (a : Nat) => ([(0, leadI lv ((jcL c [f, g] a 0).foldl implStep R))] : List (Nat × Itm))) s) (fun s : Nat => (fun (a : Nat) => a ≤ c.s.length) s) (fun s : Nat => (fun (a : Nat) => c.s.length - a) s) (0) (sub_cons rfl (sub_cons rfl (sub_cons rfl (sub_cons rfl (sub_cons rfl (sub_cons rfl (sub_cons rfl sub_nil))))))) rfl (Nat.zero_le _) ?_
  rintro a hinv KL5 hKL5
  simp only [updL, List.foldl_cons, List.foldl_nil, List.set_cons_succ, List.set_cons_zero, List.cons_append, List.nil_append] at hinv hKL5 ⊢
  have ha := hinv
  refine gc_seq fun K6 hK6 => ?_
  refine gc_region ?_
  refine g_v (.free rfl) rfl rfl (qt_lss rfl rfl rfl) ?_
  refine g_nil ?_
  refine gk_then (hK6 _ _ ?_)
  refine gc_seq fun K7 hK7 => ?_
  refine gc_cond rfl (fun hc0 => ?_) (fun hc0 => ?_)
  · try simp only [decide_eq_true_eq, decide_eq_false_iff_not, Bool.not_eq_true', Bool.not_eq_false', Bool.not_eq_eq_eq_not, Bool.not_true, Bool.not_false, ne_eq, Decidable.not_not, Classical.not_not] at hc0
    refine gc_skip ?_
    refine gk_then (hK7 _ _ ?_)
    refine gc_seq fun K8 hK8 => ?_
    refine gc_block ?_
    refine gc_seq fun K9 hK9 => ?_
    refine gc_region ?_
    refine g_v (.free rfl) rfl rfl (qt_move rfl rfl) ?_
    refine g_v (.free rfl) rfl rfl (qt_assign rfl rfl) ?_
    refine g_nil ?_
    refine gk_then (hK9 _ _ ?_)
    refine gc_seq fun K10 hK10 => ?_
    refine gc_seq fun K11 hK11 => ?_
    refine gc_draw (by kernel_rfl) ?_
    refine gd_v (.free rfl) rfl rfl (qt_field (z := 0) (off := 2) rfl rfl Try.underlying27 rfl (by kernel_rfl) rfl) ?_
    refine gd_v (.free rfl) rfl rfl (qt_loadB (n := 2) rfl rfl Try.underlying24 rfl rfl rfl) ?_
    refine gd_v (.free rfl) rfl rfl (qt_move rfl rfl) ?_
    refine gd_v (.free rfl) rfl rfl (qt_index rfl rfl rfl ulE1 szE1 (fun w M => lenA_rd (((rdC_parts (mem_rdX (n := 1) M rfl hrd)).2.1))) (by omega) (by omega)) ?_
    refine gd_v (.free rfl) rfl rfl (qt_load1 rfl rfl Try.underlying2 rfl (fun w M => ((rdC_parts (mem_rdX (n := 1) M rfl hrd)).2.1)) (by omega) (by omega)) ?_
    refine gd_v (.free rfl) rfl rfl (qt_field (z := 0) (off := 1) rfl rfl Try.underlying27 rfl (by kernel_rfl) rfl) ?_
    refine gd_v (.free rfl) rfl rfl (qt_loadB (n := 2) rfl rfl Try.underlying24 rfl rfl rfl) ?_
    refine gd_v (.free rfl) rfl rfl (qt_move rfl rfl) ?_
    refine gd_v (.free rfl) rfl rfl (qt_index rfl rfl rfl ulE1 szE1 (fun w M => lenA_rd (((rdC_parts (mem_rdX (n := 1) M rfl hrd)).1))) (by omega) (by omega)) ?_
    refine gd_v (.free rfl) rfl rfl (qt_load1 rfl rfl Try.underlying2 rfl (fun w M => ((rdC_parts (mem_rdX (n := 1) M rfl hrd)).1)) (by omega) (by omega)) ?_
    refine gd_v (.free rfl) rfl rfl (qt_neq rfl rfl rfl) ?_
    refine gd_nil ?_
    refine gk_then (hK11 _ _ ?_)
    refine gc_cond rfl (fun hc1 => ?_) (fun hc1 => ?_)
    · try simp only [decide_eq_true_eq, decide_eq_false_iff_not, Bool.not_eq_true', Bool.not_eq_false', Bool.not_eq_eq_eq_not, Bool.not_true, Bool.not_false, ne_eq, Decidable.not_not, Classical.not_not] at hc1
      refine gc_exit ?_
      refine gk_then_exit ?_
      refine gk_block_hit ?_
      refine gk_then (hK8 _ _ ?_)
      refine gc_region ?_
      refine g_v (.free rfl) rfl rfl (qt_add rfl rfl rfl (by omega)) ?_
      refine g_v (.free rfl) rfl rfl (qt_move rfl rfl) ?_
      refine g_nil ?_
      rw [jcL_none (c := c) (q := [f, g]) (f := a) (by assumption)]
      refine gk_then (gk_take 3 ?_)
      refine gk_sub ?hs_12 (hKL5 (a + 1) ?hi_12 ?hm_12)
      case hs_12 => exact (sub_cons rfl (sub_cons rfl (sub_cons rfl (sub_cons rfl (sub_cons rfl (sub_cons rfl (sub_cons rfl sub_nil)))))))
      case hi_12 => omega
      case hm_12 => omega
    · try simp only [decide_eq_true_eq, decide_eq_false_iff_not, Bool.not_eq_true', Bool.not_eq_false', Bool.not_eq_eq_eq_not, Bool.not_true, Bool.not_false, ne_eq, Decidable.not_not, Classical.not_not] at hc1
      refine gc_skip ?_
      refine gk_then (hK10 _ _ ?_)
      refine gc_seq fun K13 hK13 => ?_
      refine gc_region ?_
      refine g_v (.free rfl) rfl rfl (qt_loadS (n := 2) rfl rfl Try.underlying27 rfl (by kernel_rfl) rfl) ?_
      refine g_q (.free rfl) rfl rfl (qt_call rfl Try.func88 rfl (by decide) rfl (fun w M => arrows_any w _ _ ((mem_rdX (n := 1) M rfl hrd)))) ?_
      refine g_v (.free rfl) rfl rfl (qt_move rfl rfl) ?_
      refine g_nil ?_
      refine gk_then (hK13 _ _ ?_)
      refine gc_block ?_
      try simp only [List.nil_append, List.cons_append, List.append_assoc, List.set_cons_succ, List.set_cons_zero]
      refine gc_loop ([(0, _), (1, _), (2, _), (3, _), (4, _), (8, _), (11, _), (12, _), (13, _), (25, _), (27, _)] : Env) (fun s : Nat => (fun (b : Nat) => ([(28, .int .i64 (b : Int))] : Env)) s) (fun s : Nat => (fun (b : Nat) => ([(0, leadI lv ((jcL c [f, g] a b).foldl implStep R))] : List (Nat × Itm))) s) (fun s : Nat => (fun (b : Nat) => b ≤ c.s.length) s) (fun s : Nat => (fun (b : Nat) => c.s.length - b) s) (0) (sub_cons rfl (sub_cons rfl (sub_cons rfl (sub_cons rfl (sub_cons rfl (sub_cons rfl (sub_cons rfl (sub_cons rfl (sub_cons rfl (sub_cons rfl (sub_cons rfl (sub_cons rfl sub_nil)))))))))))) rfl (Nat.zero_le _) ?_
      rintro b hinv KL14 hKL14
      simp only [updL, List.foldl_cons, List.foldl_nil, List.set_cons_succ, List.set_cons_zero, List.cons_append, List.nil_append] at hinv hKL14 ⊢
      have hb := hinv
      refine gc_seq fun K15 hK15 => ?_
      refine gc_region ?_
      refine g_v (.free rfl) rfl rfl (qt_lss rfl rfl rfl) ?_
      refine g_nil ?_
      refine gk_then (hK15 _ _ ?_)
      refine gc_seq fun K16 hK16 => ?_
      refine gc_cond rfl (fun hc2 => ?_) (fun hc2 => ?_)
      · try simp only [decide_eq_true_eq, decide_eq_false_iff_not, Bool.not_eq_true', Bool.not_eq_false', Bool.not_eq_eq_eq_not, Bool.not_true, Bool.not_false, ne_eq, Decidable.not_not, Classical.not_not] at hc2
        refine gc_skip ?_
        refine gk_then (hK16 _ _ ?_)
        refine gc_seq fun K17 hK17 => ?_
        refine gc_block ?_
        refine gc_seq fun K18 hK18 => ?_
        refine gc_region ?_
        refine g_v (.free rfl) rfl rfl (qt_move rfl rfl) ?_
        refine g_v (.free rfl) rfl rfl (qt_assign rfl rfl) ?_
        refine g_nil ?_
        refine gk_then (hK18 _ _ ?_)
        refine gc_seq fun K19 hK19 => ?_
        refine gc_draw (by kernel_rfl) ?_
        refine gd_v (.free rfl) rfl rfl (qt_field (z := 0) (off := 1) rfl rfl Try.underlying27 rfl (by kernel_rfl) rfl) ?_
        refine gd_v (.free rfl) rfl rfl (qt_loadB (n := 2) rfl rfl Try.underlying24 rfl rfl rfl) ?_
        refine gd_v (.free rfl) rfl rfl (qt_move rfl rfl) ?_
        refine gd_v (.free rfl) rfl rfl (qt_index rfl rfl rfl ulE1 szE1 (fun w M => lenA_rd (((rdC_parts (mem_rdX (n := 1) M rfl hrd)).1))) (by omega) (by omega)) ?_
        refine gd_v (.free rfl) rfl rfl (qt_load1 rfl rfl Try.underlying2 rfl (fun w M => ((rdC_parts (mem_rdX (n := 1) M rfl hrd)).1)) (by omega) (by omega)) ?_
        refine gd_v (.free rfl) rfl rfl (qt_field (z := 0) (off := 2) rfl rfl Try.underlying27 rfl (by kernel_rfl) rfl) ?_
        refine gd_v (.free rfl) rfl rfl (qt_loadB (n := 2) rfl rfl Try.underlying24 rfl rfl rfl) ?_
        refine gd_v (.free rfl) rfl rfl (qt_move rfl rfl) ?_
        refine gd_v (.free rfl) rfl rfl (qt_index rfl rfl rfl ulE1 szE1 (fun w M => lenA_rd (((rdC_parts (mem_rdX (n := 1) M rfl hrd)).2.1))) (by omega) (by omega)) ?_
        refine gd_v (.free rfl) rfl rfl (qt_load1 rfl rfl Try.underlying2 rfl (fun w M => ((rdC_parts (mem_rdX (n := 1) M rfl hrd)).2.1)) (by omega) (by omega)) ?_
        refine gd_v (.free rfl) rfl rfl (qt_eql rfl rfl rfl) ?_
        refine gd_nil ?_
        refine gk_then (hK19 _ _ ?_)
        refine gc_cond rfl (fun hc3 => ?_) (fun hc3 => ?_)
        · try simp only [decide_eq_true_eq, decide_eq_false_iff_not, Bool.not_eq_true', Bool.not_eq_false', Bool.not_eq_eq_eq_not, Bool.not_true, Bool.not_false, ne_eq, Decidable.not_not, Classical.not_not] at hc3
          have T1 := th_ends hS (f := (a : Int)) (g := f) (by omega) (by omega) (by omega) (by omega) (by omega)
          have T2 := th_ends hS (f := (a : Int)) (g := g) (by omega) (by omega) (by omega) (by omega) (by omega)
          have u1 := T1.1.1; have u2 := T1.1.2; have u3 := T2.1.1; have u4 := T2.1.2
          have G0 := arrP hS (f := (a : Int)) (by omega) (by omega)
          have G1 := arrP hS u1 u2
          have G2 := arrP hS u3 u4
          have x1 := G0.fm; have x2 := G0.row; have x3 := G1.fm; have x4 := G1.row; have x5 := G2.fm; have x6 := G2.row
          have V1 := th_ends hS (f := c.th (a : Int) f) (g := (b : Int)) u1 u2 (by omega) (by omega) (T1.2.2.trans (by omega))
          have V2 := th_ends hS (f := c.th (a : Int) g) (g := (b : Int)) u3 u4 (by omega) (by omega) (T2.2.2.trans (by omega))
          have v1 := V1.1.1; have v2 := V1.1.2; have v3 := V2.1.1; have v4 := V2.1.2
          have hjl := jc_len R (jcL c [f, g] a b)
          try simp only [List.nil_append, List.cons_append, List.append_assoc, List.set_cons_succ, List.set_cons_zero]
          refine ga_start _ (fun w M => mem_erase 0 (M)) ?_
          refine ga_v 0 rfl (by kernel_rfl) (by kernel_rfl) (by kernel_rfl) (.free rfl) rfl rfl (qt_move rfl rfl) (fun _ _ _ h => h) ?_
          refine ga_v 1 rfl (by kernel_rfl) (by kernel_rfl) (by kernel_rfl) (.free rfl) rfl rfl (qt_loadS (n := 1) rfl rfl Try.underlying27 rfl (by kernel_rfl) rfl) (fun _ _ _ h => h) ?_
          refine ga_v 2 rfl (by kernel_rfl) (by kernel_rfl) (by kernel_rfl) (.free rfl) rfl rfl (qt_loadS (n := 1) rfl rfl Try.underlying27 rfl (by kernel_rfl) rfl) (fun _ _ _ h => h) ?_
          refine ga_v 3 rfl (by kernel_rfl) (by kernel_rfl) (by kernel_rfl) (.free rfl) rfl rfl (qt_move rfl rfl) (fun _ _ _ h => h) ?_
          refine ga_v 4 rfl (by kernel_rfl) (by kernel_rfl) (by kernel_rfl) (.free rfl) rfl rfl (qt_move rfl rfl) (fun _ _ _ h => h) ?_
          refine ga_v 6 rfl (by kernel_rfl) (by kernel_rfl) (by kernel_rfl) (.free rfl) rfl rfl (qt_move rfl rfl) (fun _ _ _ h => h) ?_
          refine ga_v 8 rfl (by kernel_rfl) (by kernel_rfl) (by kernel_rfl) (.free rfl) rfl rfl (qt_loadS (n := 1) rfl rfl Try.underlying27 rfl (by kernel_rfl) rfl) (fun _ _ _ h => h) ?_
          refine ga_v 9 rfl (by kernel_rfl) (by kernel_rfl) (by kernel_rfl) (.free rfl) rfl rfl (qt_loadS (n := 1) rfl rfl Try.underlying27 rfl (by kernel_rfl) rfl) (fun _ _ _ h => h) ?_
          refine ga_v 10 rfl (by kernel_rfl) (by kernel_rfl) (by kernel_rfl) (.free rfl) rfl rfl (qt_move rfl rfl) (fun _ _ _ h => h) ?_
          refine ga_v 11 rfl (by kernel_rfl) (by kernel_rfl) (by kernel_rfl) (.free rfl) rfl rfl (qt_move rfl rfl) (fun _ _ _ h => h) ?_
          refine ga_v 13 rfl (by kernel_rfl) (by kernel_rfl) (by kernel_rfl) (.free rfl) rfl rfl (qt_move rfl rfl) (fun _ _ _ h => h) ?_
          refine ga_op 5 (by kernel_rfl) rfl (.free rfl) fun K20 hK20 => ?_
          refine go_q rfl rfl (qt_call rfl Try.func75 rfl (by decide) rfl (fun w M => then_any w _ _ _ _ ((mem_rdX (n := 1) M rfl hrd)) (by first | assumption | omega) (by first | assumption | omega) (by first | assumption | omega) (by first | assumption | omega))) ?_
          refine hK20 _ _ (fun w M => (mem_erase 0 (mem_take 3 M) :)) ?_
          refine ga_op 7 (by kernel_rfl) rfl (.free rfl) fun K21 hK21 => ?_
          refine go_q rfl rfl (qt_call rfl Try.func75 rfl (by decide) rfl (fun w M => then_any w _ _ _ _ ((mem_rdX (n := 1) M rfl hrd)) (by first | assumption | omega) (by first | assumption | omega) (by first | assumption | omega) (by first | assumption | omega))) ?_
          refine hK21 _ _ (fun w M => (mem_erase 0 (mem_take 3 M) :)) ?_
          refine ga_op 12 (by kernel_rfl) rfl (.free rfl) fun K22 hK22 => ?_
          refine go_q rfl rfl (qt_call rfl Try.func75 rfl (by decide) rfl (fun w M => then_any w _ _ _ _ ((mem_rdX (n := 1) M rfl hrd)) (by first | assumption | omega) (by first | assumption | omega) (by first | assumption | omega) (by first | assumption | omega))) ?_
          refine hK22 _ _ (fun w M => (mem_erase 0 (mem_take 3 M) :)) ?_
          refine ga_op 14 (by kernel_rfl) rfl (.free rfl) fun K23 hK23 => ?_
          refine go_q rfl rfl (qt_call rfl Try.func75 rfl (by decide) rfl (fun w M => then_any w _ _ _ _ ((mem_rdX (n := 1) M rfl hrd)) (by first | assumption | omega) (by first | assumption | omega) (by first | assumption | omega) (by first | assumption | omega))) ?_
          refine hK23 _ _ (fun w M => (mem_erase 0 (mem_take 3 M) :)) ?_
          refine ga_op 15 (by kernel_rfl) rfl (.free rfl) fun K25 hK25 => ?_
          refine go_join (n := 0) rfl rfl rfl Try.func173 rfl (by decide) rfl rfl rfl (by omega) (by omega) (by omega) (by omega) ?_
          refine hK25 _ _ (fun w M => (mem_erase 0 (mem_take 3 M) :)) ?_
          refine ga_done (by kernel_rfl) ?_
          refine gk_block ?_
          refine gk_then (hK17 _ _ ?_)
          refine gc_region ?_
          refine g_v (.free rfl) rfl rfl (qt_add rfl rfl rfl (by omega)) ?_
          refine g_v (.free rfl) rfl rfl (qt_move rfl rfl) ?_
          refine g_nil ?_
          have hst := jc_step R c [f, g] a b
          rw [e0, e1] at hst
          have hh : hitS c [f, g] a b := ⟨by rw [e0]; omega, by rw [e0]; omega⟩
          rw [hst, jcL_t hh]
          refine gk_then (gk_take 3 ?_)
          refine gk_sub ?hs_26 (hKL14 (b + 1) ?hi_26 ?hm_26)
          case hs_26 => exact (sub_cons rfl (sub_cons rfl (sub_cons rfl (sub_cons rfl (sub_cons rfl (sub_cons rfl (sub_cons rfl (sub_cons rfl (sub_cons rfl (sub_cons rfl (sub_cons rfl (sub_cons rfl sub_nil))))))))))))
          case hi_26 => omega
          case hm_26 => omega
        · try simp only [decide_eq_true_eq, decide_eq_false_iff_not, Bool.not_eq_true', Bool.not_eq_false', Bool.not_eq_eq_eq_not, Bool.not_true, Bool.not_false, ne_eq, Decidable.not_not, Classical.not_not] at hc3
          refine gc_skip ?_
          refine gk_block ?_
          refine gk_then (hK17 _ _ ?_)
          refine gc_region ?_
          refine g_v (.free rfl) rfl rfl (qt_add rfl rfl rfl (by omega)) ?_
          refine g_v (.free rfl) rfl rfl (qt_move rfl rfl) ?_
          refine g_nil ?_
          rw [jcL_f (c := c) (q := [f, g]) (f := a) (g := b) (fun hh => absurd (show at0 c.s (b : Int) = at0 c.t f from by rw [← e0]; exact hh.2.symm) (by assumption))]
          refine gk_then (gk_take 3 ?_)
          refine gk_sub ?hs_27 (hKL14 (b + 1) ?hi_27 ?hm_27)
          case hs_27 => exact (sub_cons rfl (sub_cons rfl (sub_cons rfl (sub_cons rfl (sub_cons rfl (sub_cons rfl (sub_cons rfl (sub_cons rfl (sub_cons rfl (sub_cons rfl (sub_cons rfl (sub_cons rfl sub_nil))))))))))))
          case hi_27 => omega
          case hm_27 => omega
      · try simp only [decide_eq_true_eq, decide_eq_false_iff_not, Bool.not_eq_true', Bool.not_eq_false', Bool.not_eq_eq_eq_not, Bool.not_true, Bool.not_false, ne_eq, Decidable.not_not, Classical.not_not] at hc2
        refine gc_exit ?_
        refine gk_then_exit ?_
        refine gk_then_exit ?_
        refine gk_block_hit ?_
        refine gk_block ?_
        refine gk_then (hK8 _ _ ?_)
        refine gc_region ?_
        refine g_v (.free rfl) rfl rfl (qt_add rfl rfl rfl (by omega)) ?_
        refine g_v (.free rfl) rfl rfl (qt_move rfl rfl) ?_
        refine g_nil ?_
        obtain rfl : b = c.s.length := by omega
        rw [jcL_row]
        refine gk_then (gk_take 3 ?_)
        refine gk_sub ?hs_28 (hKL5 (a + 1) ?hi_28 ?hm_28)
        case hs_28 => exact (sub_cons rfl (sub_cons rfl (sub_cons rfl (sub_cons rfl (sub_cons rfl (sub_cons rfl (sub_cons rfl sub_nil)))))))
        case hi_28 => omega
        case hm_28 => omega
  · try simp only [decide_eq_true_eq, decide_eq_false_iff_not, Bool.not_eq_true', Bool.not_eq_false', Bool.not_eq_eq_eq_not, Bool.not_true, Bool.not_false, ne_eq, Decidable.not_not, Classical.not_not] at hc0
    refine gc_exit ?_
    refine gk_then_exit ?_
    refine gk_then_exit ?_
    refine gk_block_hit ?_
    refine ret_0n rfl (fun w M => ?_)
    obtain rfl : a = c.s.length := by omega
    exact ⟨rfl, mem_take 2 M⟩


theorem jc_full {c : Cat} {q : List Int} (h : q.length = 2) (n : Nat) (L : List (List Int)) : (jcL c [at0 q 0, at0 q 1] c.s.length 0).foldl implStep (implL n L) = implL n (L ++ sprF c q c.s.length) := by
  have hq : [at0 q 0, at0 q 1] = q := by
    match q, h with
    | [a, b], _ => rfl
  rw [hq, implL_app]
  have : jcL c q c.s.length 0 = sprF c q c.s.length := by simp [jcL, sprR]
  rw [this]
theorem implL_lenI (n : Nat) (L : List (List Int)) : ((implL n L).length : Int) = n := by rw [implL_len]
theorem lead_ab {c : Cat} {q : List Int} {L : List (List Int)} (hL : ∀ r ∈ L, PairP c.s.length r) (hq : PairP c.s.length q) (h : (implL c.s.length L).getD (at0 q 0).toNat 0 = (implL c.s.length L).getD (at0 q 1).toNat 0) : RelL c.s.length L (pa q) (pb q) :=
  (lead_rel hL (pair_at hq).2.2.1 (pair_at hq).2.2.2).1 h

set_option maxHeartbeats 1000000 in
set_option maxRecDepth 100000 in
theorem impl_CongruenceOf (w : World) (v : Value) (c : Cat) (u : Value) (ps : List (List Int)) (h : RdC w v c) (hu : Rd2 w u ps) :
    Calls Try.prog 57 #[v, u] w (RetLI w (fCongruenceOf c ps).1 (fCongruenceOf c ps).2) := by
  have h0 := h
  obtain ⟨va, vb, vc, vd, ve, vf, vg, vh, rfl, h1, h2, h3, h4, _⟩ := h.lists
  obtain ⟨ua, uc, rfl⟩ := rd2_form hu
  have hul := rd2_len hu
  go_enter Try.func57, Try.ntmps57
  refine gc_enter (N := 58) rfl (look_cons (k := 0) rfl (look_cons (k := 1) rfl (look_nil _))) ?_
  refine gc_seq fun K1 hK1 => ?_
  refine gc_region ?_
  refine g_op (.free rfl) fun K3 hK3 => ?_
  refine go_box rfl rfl rfl rfl rfl ?_
  intro B2
  refine hK3 _ _ ?_
  refine g_v (.free rfl) rfl rfl (qt_assign rfl rfl) ?_
  refine g_v (.free rfl) rfl rfl (qt_assign rfl rfl) ?_
  refine g_nil ?_
  refine gk_then (hK1 _ _ ?_)
  refine gc_seq fun K4 hK4 => ?_
  refine gc_region ?_
  refine g_v (.free rfl) rfl rfl (qt_loadS (n := 0) rfl rfl Try.underlying27 rfl (by kernel_rfl) rfl) ?_
  refine g_op (.free rfl) fun K6 hK6 => ?_
  refine go_callCI rfl rfl rfl Try.func87 rfl (by decide) rfl (fun w M => readCat_any w _ _ (mem_rdC M h0)) ?_
  intro ca5 cb5 cc5 cd5 ce5 cf5 cg5 ch5 cu5
  refine hK6 _ _ ?_
  refine g_v (.free rfl) rfl rfl (qt_move rfl rfl) ?_
  refine g_v (.free rfl) rfl rfl (qt_extract rfl rfl rfl) ?_
  refine g_v (.free rfl) rfl rfl (qt_extract rfl rfl rfl) ?_
  refine g_op (.free rfl) fun K8 hK8 => ?_
  refine go_alloc (z := (.agg #[.int .i64 0, .slice none 0 0, .slice none 0 0, .slice none 0 0, .slice none 0 0])) (cs := [.int .i64 0, .slice none 0 0, .slice none 0 0, .slice none 0 0, .slice none 0 0]) rfl rfl rfl (fun w => by kernel_rfl) rfl ?_
  intro B7
  refine hK8 _ _ ?_
  refine g_op (.free rfl) fun K9 hK9 => ?_
  refine go_storeS (n := 5) rfl rfl rfl rfl (by kernel_rfl) rfl rfl rfl ?_
  refine hK9 _ _ ?_
  refine g_v (.free rfl) rfl rfl (qt_assign rfl rfl) ?_
  refine g_nil ?_
  refine gk_then (hK4 _ _ ?_)
  refine gc_seq fun K10 hK10 => ?_
  refine gc_seq fun K11 hK11 => ?_
  refine gc_region ?_
  refine g_v (.free rfl) rfl rfl (qt_move rfl rfl) ?_
  refine g_v (.free rfl) rfl rfl (qt_neq rfl rfl rfl) ?_
  refine g_nil ?_
  refine gk_then (hK11 _ _ ?_)
  refine gc_cond rfl (fun hc0 => ?_) (fun hc0 => ?_)
  · try simp only [decide_eq_true_eq, decide_eq_false_iff_not, Bool.not_eq_true', Bool.not_eq_false', Bool.not_eq_eq_eq_not, Bool.not_true, Bool.not_false, ne_eq, Decidable.not_not, Classical.not_not] at hc0
    refine gc_seq fun K12 hK12 => ?_
    refine gc_region ?_
    refine g_v (.free rfl) rfl rfl (qt_move rfl rfl) ?_
    refine g_v (.free rfl) rfl rfl (qt_assign rfl rfl) ?_
    refine g_v (.free rfl) rfl rfl (qt_assign rfl rfl) ?_
    refine g_nil ?_
    refine gk_then (hK12 _ _ ?_)
    refine gc_ret ?_
    refine gk_then_ret ?_
    refine ret_2 rfl rfl rfl  (fun w M => ?_)
    rw [(catErr_n hc0).2, cgo_f (catErr_n hc0).1]; exact ⟨_, rfl, Sl.nil _ _, M.1⟩
  · try simp only [decide_eq_true_eq, decide_eq_false_iff_not, Bool.not_eq_true', Bool.not_eq_false', Bool.not_eq_eq_eq_not, Bool.not_true, Bool.not_false, ne_eq, Decidable.not_not, Classical.not_not] at hc0
    refine gc_skip ?_
    refine gk_then (hK10 _ _ ?_)
    refine gc_seq fun K13 hK13 => ?_
    refine gc_seq fun K14 hK14 => ?_
    have hI := catErr_0 hc0
    simp only [catCat_t hc0]
    have hC := isCat_of hI
    have hS := hC.toShapeP
    have hn40 := hS.n40; have htl := hS.tl; have hel := hS.el; have hob0 := hS.ob0; have hob8 := hS.ob8; have hml := hS.ml
    refine gc_region ?_
    refine g_v (.free rfl) rfl rfl (qt_loadS (n := 5) rfl rfl Try.underlying27 rfl (by kernel_rfl) rfl) ?_
    refine g_v (.free rfl) rfl rfl (qt_move rfl rfl) ?_
    refine g_q (.free rfl) rfl rfl (qt_call rfl Try.func118 rfl (by decide) rfl (fun w M => checkPairs_any w _ _ (rdC_mk ((mem_own1 (n := 1) M rfl).rd) ((mem_own1 (n := 2) M rfl).rd) ((mem_own1 (n := 3) M rfl).rd) (mem_rdU (n := 4) M rfl)) _ _ (mem_rd2 M hu) (hS.tl))) ?_
    refine g_v (.free rfl) rfl rfl (qt_assign rfl rfl) ?_
    refine g_nil ?_
    refine gk_then (hK14 _ _ ?_)
    refine gc_seq fun K15 hK15 => ?_
    refine gc_region ?_
    refine g_v (.free rfl) rfl rfl (qt_move rfl rfl) ?_
    refine g_v (.free rfl) rfl rfl (qt_neq rfl rfl rfl) ?_
    refine g_nil ?_
    refine gk_then (hK15 _ _ ?_)
    refine gc_cond rfl (fun hc1 => ?_) (fun hc1 => ?_)
    · try simp only [decide_eq_true_eq, decide_eq_false_iff_not, Bool.not_eq_true', Bool.not_eq_false', Bool.not_eq_eq_eq_not, Bool.not_true, Bool.not_false, ne_eq, Decidable.not_not, Classical.not_not] at hc1
      refine gc_seq fun K16 hK16 => ?_
      refine gc_region ?_
      refine g_v (.free rfl) rfl rfl (qt_move rfl rfl) ?_
      refine g_v (.free rfl) rfl rfl (qt_assign rfl rfl) ?_
      refine g_v (.free rfl) rfl rfl (qt_assign rfl rfl) ?_
      refine g_nil ?_
      refine gk_then (hK16 _ _ ?_)
      refine gc_ret ?_
      refine gk_then_ret ?_
      refine ret_2 rfl rfl rfl  (fun w M => ?_)
      rw [cgo_e hI hc1]; exact ⟨_, rfl, Sl.nil _ _, M.1⟩
    · try simp only [decide_eq_true_eq, decide_eq_false_iff_not, Bool.not_eq_true', Bool.not_eq_false', Bool.not_eq_eq_eq_not, Bool.not_true, Bool.not_false, ne_eq, Decidable.not_not, Classical.not_not] at hc1
      refine gc_skip ?_
      refine gk_then (hK13 _ _ ?_)
      refine gc_seq fun K17 hK17 => ?_
      have hE := perr_0 hc1
      have hPL := parL_of hE.1 hE.2
      refine gc_region ?_
      refine g_v (.free rfl) rfl rfl (qt_loadS (n := 5) rfl rfl Try.underlying27 rfl (by kernel_rfl) rfl) ?_
      refine g_q (.free rfl) rfl rfl (qt_call rfl Try.func88 rfl (by decide) rfl (fun w M => arrows_any w _ _ (rdC_mk ((mem_own1 (n := 1) M rfl).rd) ((mem_own1 (n := 2) M rfl).rd) ((mem_own1 (n := 3) M rfl).rd) (mem_rdU (n := 4) M rfl)))) ?_
      refine g_op (.free rfl) fun K19 hK19 => ?_
      refine go_newLeaders rfl rfl rfl Try.func119 rfl (by decide) rfl (by omega) (by omega) rfl ?_
      intro B18
      refine hK19 _ _ ?_
      refine g_v (.free rfl) rfl rfl (qt_assign rfl rfl) ?_
      refine g_nil ?_
      refine gk_then (hK17 _ _ ?_)
      refine gc_seq fun K20 hK20 => ?_
      refine gc_seq fun K21 hK21 => ?_
      refine gc_region ?_
      refine g_v (.free rfl) rfl rfl (qt_move rfl rfl) ?_
      refine g_v (.free rfl) rfl rfl (qt_len rfl rfl ulE2 (fun w M => lenV_rd2 hu)) ?_
      refine g_v (.free rfl) rfl rfl (qt_move rfl rfl) ?_
      refine g_nil ?_
      refine gk_then (hK21 _ _ ?_)
      refine gc_block ?_
      try simp only [List.nil_append, List.cons_append, List.append_assoc, List.set_cons_succ, List.set_cons_zero]
      refine gc_loop ([(0, _), (1, _), (2, _), (4, _), (5, _), (6, _), (7, _), (8, _), (9, _), (18, _), (24, _), (29, _), (30, _)] : Env) (fun s : Nat × (List (List Int)) => (fun (k : Nat) (L : List (List Int)) => ([(31, .int .i64 (k : Int))] : Env)) s.1 s.2) (fun s : Nat × (List (List Int)) => (fun (k : Nat) (L : List (List Int)) => ([(6, leadI (.slice (some ⟨B18, 0, none⟩) (c.s.length : Int).toNat (c.s.length : Int).toNat) (implL c.s.length L))] : List (Nat × Itm))) s.1 s.2) (fun s : Nat × (List (List Int)) => (fun (k : Nat) (L : List (List Int)) => k ≤ ps.length ∧ (∀ r ∈ L, PairP c.s.length r) ∧ SameR c.s.length L (spread c (ps.take k))) s.1 s.2) (fun s : Nat × (List (List Int)) => (fun (k : Nat) (L : List (List Int)) => ps.length - k) s.1 s.2) (0, []) (sub_cons rfl (sub_cons rfl (sub_cons rfl (sub_cons rfl (sub_cons rfl (sub_cons rfl (sub_cons rfl (sub_cons rfl (sub_cons rfl (sub_cons rfl (sub_cons rfl (sub_cons rfl (sub_cons rfl (sub_cons rfl sub_nil)))))))))))))) rfl ⟨Nat.zero_le _, fun r hr => absurd hr (by simp), same_zero _ _ _⟩ ?_
      rintro ⟨k, L⟩ hinv KL22 hKL22
      simp only [updL, List.foldl_cons, List.foldl_nil, List.set_cons_succ, List.set_cons_zero, List.cons_append, List.nil_append] at hinv hKL22 ⊢
      obtain ⟨hk, hL, hSm⟩ := hinv
      have hil := implL_lenI c.s.length L
      refine gc_seq fun K23 hK23 => ?_
      refine gc_region ?_
      refine g_v (.free rfl) rfl rfl (qt_lss rfl rfl rfl) ?_
      refine g_nil ?_
      refine gk_then (hK23 _ _ ?_)
      refine gc_seq fun K24 hK24 => ?_
      refine gc_cond rfl (fun hc2 => ?_) (fun hc2 => ?_)
      · try simp only [decide_eq_true_eq, decide_eq_false_iff_not, Bool.not_eq_true', Bool.not_eq_false', Bool.not_eq_eq_eq_not, Bool.not_true, Bool.not_false, ne_eq, Decidable.not_not, Classical.not_not] at hc2
        refine gc_skip ?_
        refine gk_then (hK24 _ _ ?_)
        refine gc_seq fun K25 hK25 => ?_
        refine gc_block ?_
        refine gc_seq fun K26 hK26 => ?_
        refine gc_region ?_
        refine g_v (.free rfl) rfl rfl (qt_index rfl rfl rfl ulE2 szE2 (fun w M => lenA_rd2 hu) (by omega) (by omega)) ?_
        refine g_load2 (.free rfl) rfl rfl rfl rfl Try.underlying24 rfl hu (by omega) (by omega) ?_
        intro ra27 rc27 hr27
        refine g_v (.free rfl) rfl rfl (qt_assign rfl rfl) ?_
        refine g_nil ?_
        refine gk_then (hK26 _ _ ?_)
        refine gc_seq fun K28 hK28 => ?_
        have hq := parL_at hPL (k := k) (by omega)
        have q1 := hq.1; have q2 := hq.2.1.1; have q3 := hq.2.1.2; have q4 := hq.2.2.1.1; have q5 := hq.2.2.1.2
        have hqp := (hPL (row2 ps (k : Int)) (row2_memL (by omega))).1
        try simp only [List.nil_append, List.cons_append, List.append_assoc, List.set_cons_succ, List.set_cons_zero]
        refine ga_start _ (fun w M => mem_erase 6 (M)) ?_
        refine ga_v 0 rfl (by kernel_rfl) (by kernel_rfl) (by kernel_rfl) (.free rfl) rfl rfl (qt_move rfl rfl) (fun _ _ _ h => h) ?_
        refine ga_v 1 rfl (by kernel_rfl) (by kernel_rfl) (by kernel_rfl) (.free rfl) rfl rfl (qt_move rfl rfl) (fun _ _ _ h => h) ?_
        refine ga_v 2 rfl (by kernel_rfl) (by kernel_rfl) (by kernel_rfl) (.free rfl) rfl rfl (qt_index rfl rfl rfl ulE1 szE1 (fun w M => lenA_rd hr27) (by omega) (by omega)) (fun _ _ _ h => h) ?_
        refine ga_v 3 rfl (by kernel_rfl) (by kernel_rfl) (by kernel_rfl) (.free rfl) rfl rfl (qt_load1 rfl rfl Try.underlying2 rfl (fun w M => mem_rd M hr27) (by omega) (by omega)) (fun _ _ _ h => h) ?_
        refine ga_v 5 rfl (by kernel_rfl) (by kernel_rfl) (by kernel_rfl) (.free rfl) rfl rfl (qt_move rfl rfl) (fun _ _ _ h => h) ?_
        refine ga_v 6 rfl (by kernel_rfl) (by kernel_rfl) (by kernel_rfl) (.free rfl) rfl rfl (qt_move rfl rfl) (fun _ _ _ h => h) ?_
        refine ga_v 7 rfl (by kernel_rfl) (by kernel_rfl) (by kernel_rfl) (.free rfl) rfl rfl (qt_index rfl rfl rfl ulE1 szE1 (fun w M => lenA_rd hr27) (by omega) (by omega)) (fun _ _ _ h => h) ?_
        refine ga_v 8 rfl (by kernel_rfl) (by kernel_rfl) (by kernel_rfl) (.free rfl) rfl rfl (qt_load1 rfl rfl Try.underlying2 rfl (fun w M => mem_rd M hr27) (by omega) (by omega)) (fun _ _ _ h => h) ?_
        refine ga_op 4 (by kernel_rfl) rfl (.free rfl) fun K30 hK30 => ?_
        refine go_leader (n := 6) rfl rfl rfl Try.func120 rfl (by decide) rfl rfl rfl (by omega) (by omega) ?_
        refine hK30 _ _ (fun w M => (mem_erase 6 (mem_take 7 M) :)) ?_
        refine ga_op 9 (by kernel_rfl) rfl (.free rfl) fun K32 hK32 => ?_
        refine go_leader (n := 6) rfl rfl rfl Try.func120 rfl (by decide) rfl rfl rfl (by omega) (by omega) ?_
        refine hK32 _ _ (fun w M => (mem_erase 6 (mem_take 7 M) :)) ?_
        refine ga_v 10 rfl (by kernel_rfl) (by kernel_rfl) (by kernel_rfl) (.free rfl) rfl rfl (qt_neq rfl rfl rfl) (fun _ _ _ h => h) ?_
        refine ga_done (by kernel_rfl) ?_
        refine gk_then (hK28 _ _ ?_)
        refine gc_cond rfl (fun hc3 => ?_) (fun hc3 => ?_)
        · try simp only [decide_eq_true_eq, decide_eq_false_iff_not, Bool.not_eq_true', Bool.not_eq_false', Bool.not_eq_eq_eq_not, Bool.not_true, Bool.not_false, ne_eq, Decidable.not_not, Classical.not_not] at hc3
          try simp only [List.nil_append, List.cons_append, List.append_assoc, List.set_cons_succ, List.set_cons_zero]
          refine ga_start _ (fun w M => mem_erase 6 (M)) ?_
          refine ga_v 0 rfl (by kernel_rfl) (by kernel_rfl) (by kernel_rfl) (.free rfl) rfl rfl (qt_loadS (n := 5) rfl rfl Try.underlying27 rfl (by kernel_rfl) rfl) (fun _ _ _ h => h) ?_
          refine ga_v 1 rfl (by kernel_rfl) (by kernel_rfl) (by kernel_rfl) (.free rfl) rfl rfl (qt_move rfl rfl) (fun _ _ _ h => h) ?_
          refine ga_v 2 rfl (by kernel_rfl) (by kernel_rfl) (by kernel_rfl) (.free rfl) rfl rfl (qt_move rfl rfl) (fun _ _ _ h => h) ?_
          refine ga_v 3 rfl (by kernel_rfl) (by kernel_rfl) (by kernel_rfl) (.free rfl) rfl rfl (qt_index rfl rfl rfl ulE1 szE1 (fun w M => lenA_rd hr27) (by omega) (by omega)) (fun _ _ _ h => h) ?_
          refine ga_v 4 rfl (by kernel_rfl) (by kernel_rfl) (by kernel_rfl) (.free rfl) rfl rfl (qt_load1 rfl rfl Try.underlying2 rfl (fun w M => mem_rd M hr27) (by omega) (by omega)) (fun _ _ _ h => h) ?_
          refine ga_v 5 rfl (by kernel_rfl) (by kernel_rfl) (by kernel_rfl) (.free rfl) rfl rfl (qt_move rfl rfl) (fun _ _ _ h => h) ?_
          refine ga_v 6 rfl (by kernel_rfl) (by kernel_rfl) (by kernel_rfl) (.free rfl) rfl rfl (qt_index rfl rfl rfl ulE1 szE1 (fun w M => lenA_rd hr27) (by omega) (by omega)) (fun _ _ _ h => h) ?_
          refine ga_v 7 rfl (by kernel_rfl) (by kernel_rfl) (by kernel_rfl) (.free rfl) rfl rfl (qt_load1 rfl rfl Try.underlying2 rfl (fun w M => mem_rd M hr27) (by omega) (by omega)) (fun _ _ _ h => h) ?_
          refine ga_op 8 (by kernel_rfl) rfl (.free rfl) fun K34 hK34 => ?_
          refine go_one (n := 6) rfl rfl rfl Try.func121 rfl (by decide) rfl rfl (fun w M => joinComp_any _ w _ c _ _ _ _ _ (fun w S hS => rdC_mk (star_own1 (n := 1) hS rfl) (star_own1 (n := 2) hS rfl) (star_own1 (n := 3) hS rfl) (star_own2U (n := 4) hS rfl)) _ (by omega) hS _ _ q2 q3 q4 q5 hq.2.2.2.1 hq.2.2.2.2 M) ?_
          refine hK34 _ _ (fun w M => (mem_erase 6 (mem_take 7 M) :)) ?_
          refine ga_done (by kernel_rfl) ?_
          refine gk_block ?_
          refine gk_then (hK25 _ _ ?_)
          refine gc_region ?_
          refine g_v (.free rfl) rfl rfl (qt_add rfl rfl rfl (by omega)) ?_
          refine g_v (.free rfl) rfl rfl (qt_move rfl rfl) ?_
          refine g_nil ?_
          rw [jc_full q1]
          refine gk_then (gk_take 7 ?_)
          refine gk_sub ?hs_35 (hKL22 (k + 1, _) ?hi_35 ?hm_35)
          case hs_35 => exact (sub_cons rfl (sub_cons rfl (sub_cons rfl (sub_cons rfl (sub_cons rfl (sub_cons rfl (sub_cons rfl (sub_cons rfl (sub_cons rfl (sub_cons rfl (sub_cons rfl (sub_cons rfl (sub_cons rfl (sub_cons rfl sub_nil))))))))))))))
          case hi_35 => exact ⟨by omega, same_step hC hPL (by omega) hL hSm⟩
          case hm_35 => omega
        · try simp only [decide_eq_true_eq, decide_eq_false_iff_not, Bool.not_eq_true', Bool.not_eq_false', Bool.not_eq_eq_eq_not, Bool.not_true, Bool.not_false, ne_eq, Decidable.not_not, Classical.not_not] at hc3
          refine gc_skip ?_
          refine gk_block ?_
          refine gk_then (hK25 _ _ ?_)
          refine gc_region ?_
          refine g_v (.free rfl) rfl rfl (qt_add rfl rfl rfl (by omega)) ?_
          refine g_v (.free rfl) rfl rfl (qt_move rfl rfl) ?_
          refine g_nil ?_
          refine gk_then (gk_take 7 ?_)
          refine gk_sub ?hs_36 (hKL22 (k + 1, _) ?hi_36 ?hm_36)
          case hs_36 => exact (sub_cons rfl (sub_cons rfl (sub_cons rfl (sub_cons rfl (sub_cons rfl (sub_cons rfl (sub_cons rfl (sub_cons rfl (sub_cons rfl (sub_cons rfl (sub_cons rfl (sub_cons rfl (sub_cons rfl (sub_cons rfl sub_nil))))))))))))))
          case hi_36 => exact ⟨by omega, hL, same_skip hC hPL (by omega) hSm (lead_ab hL hqp (by assumption))⟩
          case hm_36 => omega
      · try simp only [decide_eq_true_eq, decide_eq_false_iff_not, Bool.not_eq_true', Bool.not_eq_false', Bool.not_eq_eq_eq_not, Bool.not_true, Bool.not_false, ne_eq, Decidable.not_not, Classical.not_not] at hc2
        refine gc_exit ?_
        refine gk_then_exit ?_
        refine gk_then_exit ?_
        refine gk_block_hit ?_
        refine gk_then (hK20 _ _ ?_)
        refine gc_seq fun K37 hK37 => ?_
        obtain rfl : k = ps.length := by omega
        rw [List.take_length] at hSm
        have he : clsOf (implL c.s.length L) = clsOf (specL c.s.length (spread c ps)) := (join_cls hL).symm.trans (cls_rel hSm)
        refine gc_region ?_
        refine g_v (.free rfl) rfl rfl (qt_move rfl rfl) ?_
        refine g_op (.free rfl) fun K39 hK39 => ?_
        refine go_classes (n := 6) rfl rfl rfl Try.func122 rfl (by decide) rfl rfl rfl ?_
        intro va38 vc38
        refine hK39 _ _ ?_
        refine g_v (.free rfl) rfl rfl (qt_assign rfl rfl) ?_
        refine g_v (.free rfl) rfl rfl (qt_assign rfl rfl) ?_
        refine g_nil ?_
        refine gk_then (hK37 _ _ ?_)
        refine gc_ret ?_
        refine ret_2 rfl rfl rfl  (fun w M => ?_)
        rw [cgo_t hI hc1, ← he]
        exact ⟨_, rfl, mem_own1 (n := 0) M rfl, M.1⟩

end Go.Proofs.Ytpfcfhjpgngneac
