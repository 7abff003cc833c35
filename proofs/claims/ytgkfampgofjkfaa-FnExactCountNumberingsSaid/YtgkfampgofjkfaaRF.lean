
/- A range over a function, walked in blocks of one's own: the loop's record, the blocks of its marks, what an iterator promises. -/
import Derived.Test.YtgkfampgofjkfaaClo2
import Derived.RangeFuncNested
set_option linter.unusedSimpArgs false
set_option linter.unusedVariables false
set_option linter.unusedSectionVars false
namespace Go.Proofs.Ytgkfampgofjkfaa
open Go.RowKit
/-- The blocks of the marks lie open. -/
theorem dfs_loc (Ds : List Nat) : Loc (fun w S => (∀ D ∈ Ds, w.heap[D]? = some (.deferred (some [])) ∧ S D) ∧ Ds.Nodup) where
  keep hs ha h := ⟨fun D hD => by
    obtain ⟨h1, h2⟩ := h.1 D hD
    have hl := (Array.getElem?_eq_some_iff.1 h1).1
    exact ⟨(ha D hl h2).trans h1, hs D hl h2⟩, h.2⟩
def dfsI (Ds : List Nat) : Itm := ⟨_, dfs_loc Ds⟩
/-- The record of a loop. -/
theorem rec_loc (l : Nat) (r : Loop) : Loc (fun w S => w.heap[l]? = some (.loop r) ∧ S l) where
  keep hs ha h := by
    have hl := (Array.getElem?_eq_some_iff.1 h.1).1
    exact ⟨(ha l hl h.2).trans h.1, hs l hl h.2⟩
def recI (l : Nat) (r : Loop) : Itm := ⟨_, rec_loc l r⟩
/-- Some of these, as one thing. -/
theorem cons_loc {σ : Type} (L : σ → List Itm) (inv : σ → Prop) : Loc (fun w S => ∃ s, inv s ∧ Star (L s) w S) where
  keep hs ha h := by obtain ⟨s, hi, h⟩ := h; exact ⟨s, hi, star_keep _ hs ha h⟩
def consI {σ : Type} (L : σ → List Itm) (inv : σ → Prop) : Itm := ⟨_, cons_loc L inv⟩
def nilI : Itm := ⟨fun _ _ => True, ⟨fun _ _ _ => trivial⟩⟩
section
variable {w0 : World} {is : List Itm} {Q : Exit → Act → World → Prop} {N : Frm} {e : Env}
theorem frS_putObj {S : Nat → Prop} {w : World} {l : Nat} {o : Obj} (h : S l) : FrS S w (w.putObj l o) := ⟨rfl, rfl, rfl, by simp, fun k _ hr => World.putObj_heap_other (fun e => hr (e ▸ h))⟩
theorem mem_rec {w : World} {n l : Nat} {r : Loop} (r' : Loop) (M : Mem w0 w is) (h : is[n]? = some (recI l r)) : w.heap[l]? = some (.loop r) ∧ Mem w0 (w.putObj l (.loop r')) (is.set n (recI l r')) := by
  obtain ⟨S, hS, hp, hset⟩ := mem_set M h
  have hl := (Array.getElem?_eq_some_iff.1 hp.1).1
  exact ⟨hp.1, hset _ _ (frS_putObj hp.2) ⟨World.putObj_heap_same hl, .inl hp.2⟩⟩
theorem below_allocO (w : World) (o : Obj) : Below w.heap.size w (w.alloc o) := (Below.refl _ w).alloc (Nat.le_refl _) _
theorem mem_rec_new {w : World} (r : Loop) (M : Mem w0 w is) : Mem w0 (w.alloc (.loop r)) (is ++ [recI w.heap.size r]) :=
  mem_new M (below_allocO w _) ⟨World.alloc_heap_new w _, Nat.le_refl _⟩
theorem mem_dfs_new {w : World} {n : Nat} {Ds : List Nat} (M : Mem w0 w is) (h : is[n]? = some (dfsI Ds)) : Mem w0 (w.alloc (.deferred (some []))) (is.set n (dfsI (w.heap.size :: Ds))) := by
  obtain ⟨S, hS, hp, hset⟩ := mem_set M h
  refine hset _ _ ⟨rfl, rfl, rfl, by simp, fun k hk _ => Below.heap_alloc w _ k hk⟩ ⟨fun D hD => ?_, ?_⟩
  · rcases List.mem_cons.1 hD with rfl | hD
    · exact ⟨World.alloc_heap_new w _, .inr (Nat.le_refl _)⟩
    · obtain ⟨h1, h2⟩ := hp.1 D hD
      exact ⟨(Below.heap_alloc w _ D (Array.getElem?_eq_some_iff.1 h1).1).trans h1, .inl h2⟩
  · refine List.nodup_cons.2 ⟨fun hD => ?_, hp.2⟩
    have := (Array.getElem?_eq_some_iff.1 (hp.1 _ hD).1).1
    omega
theorem star_split : ∀ (is js : List Itm) {w : World} {S : Nat → Prop}, Star (is ++ js) w S → ∃ S1 S2 : Nat → Prop, (∀ k, S1 k → S k) ∧ (∀ k, S2 k → S k) ∧ (∀ k, S1 k → ¬ S2 k) ∧ Star is w S1 ∧ Star js w S2
  | [], js, w, S, h => ⟨fun _ => False, S, fun _ h => h.elim, fun _ h => h, fun _ h => h.elim, trivial, h⟩
  | i :: is, js, w, S, ⟨S1, S2, k1, k2, kd, h1, h2⟩ => by
    obtain ⟨T1, T2, t1, t2, td, h3, h4⟩ := star_split is js h2
    exact ⟨fun k => S1 k ∨ T1 k, T2, fun k h => h.elim (k1 k) (fun h => k2 k (t1 k h)), fun k h => k2 k (t2 k h), fun k a b => a.elim (fun a => kd k a (t2 k b)) (fun a => td k a b), ⟨S1, T1, fun k h => .inl h, fun k h => .inr h, fun k a b => kd k a (t1 k b), h1, h3⟩, h4⟩
/-- What is one thing is those of some state. -/
theorem mem_cons_out {σ : Type} {L : σ → List Itm} {inv : σ → Prop} {js : List Itm} {w : World} (M : Mem w0 w (consI L inv :: js)) : ∃ s, inv s ∧ Mem w0 w (L s ++ js) := by
  obtain ⟨hb, S1, S2, k1, k2, kd, ⟨s, hi, h1⟩, h2⟩ := M
  exact ⟨s, hi, hb, star_app _ _ k1 k2 kd h1 h2⟩
theorem mem_cons_in {σ : Type} {L : σ → List Itm} {inv : σ → Prop} {js : List Itm} {w : World} (s : σ) (hi : inv s) (M : Mem w0 w (L s ++ js)) : Mem w0 w (consI L inv :: js) := by
  obtain ⟨S1, S2, k1, k2, kd, h1, h2⟩ := star_split _ _ M.2
  exact ⟨M.1, S1, S2, k1, k2, kd, ⟨s, hi, h1⟩, h2⟩

/-! ### The iterator's side -/
/-- What the loop promises the iterator: from a round on x, handed the things of x, it comes back with 'more' or 'no more'; the iterator's things lie as they lay. -/
def YieldC {α β : Type} (w0 : World) (C Cx : List α → Itm) (l : Nat) (val : α → Value) (T : α → List Itm) (dec : α → β) (L : List β) : Prop :=
  ∀ (W : World) (js : List Itm) (pre : List α) (x : α), ((pre ++ [x]).map dec) <+: L → Mem w0 W (C pre :: (T x ++ js)) → YieldAt Fence.wide 0 Try.prog l #[val x] W fun e W' =>
    (e = .returned (.bool true) ∧ Mem w0 W' (C (pre ++ [x]) :: js)) ∨ (e = .returned (.bool false) ∧ Mem w0 W' (Cx (pre ++ [x]) :: js))
/-- What the iterator promises the loop: all that the list has comes, in its order, or the beginning of it behind which a round said 'no more'. -/
def SeqC {α β : Type} (w0 : World) (B : List Itm) (gf : Nat) (lb : List Value) (val : α → Value) (T : α → List Itm) (dec : α → β) (L : List β) : Prop :=
  ∀ (C Cx : List α → Itm) (l : Nat), YieldC w0 C Cx l val T dec L → ∀ W, Mem w0 W (C [] :: B) → Calls Try.prog gf (.func (.yield l) #[] #[] :: lb).toArray W fun e W' =>
    (∃ v, e = .returned v) ∧ ((∃ xs, xs.map dec = L ∧ Mem w0 W' (C xs :: B)) ∨ (∃ pre, (pre.map dec) <+: L ∧ Mem w0 W' (Cx pre :: B)))
def jumpC : Code → Prop
  | .ret => True
  | .exit _ => True
  | _ => False

theorem run_invokeF {gf : Nat} {fn : Func} (hfn : Try.prog.funcs[gf]? = some fn) (hb : fn.body.isNone = false) (hn : (fn.name == "runtime.NumGoroutine") = false) (args : Array Value) (w : World) : (callFunc gf args).run Try.prog w = .ok (.enter gf args) w := by
  have hb' : ¬ fn.body = none := fun h => by rw [h] at hb; simp at hb
  have hn' : ¬ fn.name = "runtime.NumGoroutine" := by simpa using hn
  simp [callFunc, hfn, hn', hb']
theorem fit_round {a : Act} {p l : Nat} {v : Value} (F : Fit N e a) (hp : Nat.blt p N = true) : Fit ⟨N.n, [], some l⟩ ((p, v) :: e) { tmps := a.tmps.setIfInBounds p v, defers := [] } := by
  have h0 : Fit ⟨N.n, [], some l⟩ e { tmps := a.tmps, defers := [] } := ⟨F.size, rfl, F.at_⟩
  have := fit_put (v := v) h0 hp
  exact ⟨this.size, rfl, this.at_⟩

section
variable {α β σ : Type} {g : Operand} {p gf : Nat} {assign body : Code} {fn : Func} {lb : List Value} {val : α → Value} {T : α → List Itm} {dec : α → β} {L : List β} {A B : List Itm}
  {ti : σ → List (Nat × Itm)} {inv : List α → σ → Prop} {invX : Code → List α → σ → Prop}
/-- One round: the assignment to the loop's variable, then the body; the ways in which it may be left. -/
def RoundC (w0 : World) (n : Nat) (assign body : Code) (p : Nat) (e : Env) (val : α → Value) (T : α → List Itm) (dec : α → β) (L : List β) (A : List Itm) (ti : σ → List (Nat × Itm)) (inv : List α → σ → Prop) (invX : Code → List α → σ → Prop) : Prop :=
  ∀ (l : Nat) (r : Loop) (js : List Itm) (pre : List α) (x : α) (s : σ), inv pre s → ((pre ++ [x]).map dec) <+: L → ∀ (Ka : Act → World → Prop) (Qb : Exit → Act → World → Prop),
    (∀ ch a a' w, Qb (.panic ch) a w → Qb (.panic ch) a' w) →
    (∀ is' e', GC w0 (recI l { r with state := .busy } :: is') ⟨n, [], some l⟩ body Qb e' → GK w0 (recI l { r with state := .ready } :: is') ⟨n, [], some l⟩ Ka e') →
    (∀ s' e', inv (pre ++ [x]) s' → GK w0 (recI l { r with state := .busy } :: (updL A (ti s') ++ [tailI js])) ⟨n, [], some l⟩ (Qb .normal) e') →
    (∀ s' e', invX .ret (pre ++ [x]) s' → GK w0 (recI l { r with state := .busy } :: (updL A (ti s') ++ [tailI js])) ⟨n, [], some l⟩ (Qb .ret) e') →
    (∀ id s' e', invX (.exit id) (pre ++ [x]) s' → GK w0 (recI l { r with state := .busy } :: (updL A (ti s') ++ [tailI js])) ⟨n, [], some l⟩ (Qb (.exit id)) e') →
    GC w0 (recI l { r with state := .ready } :: (updL A (ti s) ++ tailI js :: T x)) ⟨n, [], some l⟩ assign (Exit.then Ka fun _ _ _ => False) ((p, val x) :: e)

/-- The loop's promise, out of a round. -/
theorem yieldC_of {a : Act} {fnr : Nat} {l : Nat} {r : Loop} {X : List Itm} (F : Fit N e a) (hN : Nat.blt p N = true) (hca : calmC assign = true) (hcb : calmC body = true)
    (hr : r = { state := .ready, pending := none, fn := fnr, tmps := a.tmps, params := #[p], assign, body, defers := r.defers })
    (round : RoundC w0 N.n assign body p e val T dec L A ti inv invX) :
    YieldC w0 (fun pre => consI (fun s => recI l { r with state := .ready } :: (X ++ updL A (ti s))) (inv pre))
      (fun pre => consI (fun cs : Code × σ => recI l { r with state := .done, pending := some cs.1 } :: (X ++ updL A (ti cs.2))) (fun cs => jumpC cs.1 ∧ invX cs.1 pre cs.2)) l val T dec L := by
  obtain ⟨C, hC⟩ : ∃ C : List α → Itm, C = fun pre => consI (fun s => recI l { r with state := .ready } :: (X ++ updL A (ti s))) (inv pre) := ⟨_, rfl⟩
  obtain ⟨Cx, hCx⟩ : ∃ C : List α → Itm, C = fun pre => consI (fun cs : Code × σ => recI l { r with state := .done, pending := some cs.1 } :: (X ++ updL A (ti cs.2))) (fun cs => jumpC cs.1 ∧ invX cs.1 pre cs.2) := ⟨_, rfl⟩
  rw [← hC, ← hCx]
  intro W js pre x hpre M
  have inC : ∀ ys s' W', inv ys s' → Mem w0 W' ((recI l { r with state := .ready } :: (X ++ updL A (ti s'))) ++ js) → Mem w0 W' (C ys :: js) := fun ys s' W' h M => by rw [hC]; exact mem_cons_in s' h M
  have inX : ∀ ys c s' W', jumpC c ∧ invX c ys s' → Mem w0 W' ((recI l { r with state := .done, pending := some c } :: (X ++ updL A (ti s'))) ++ js) → Mem w0 W' (Cx ys :: js) := fun ys c s' W' h M => by
    rw [hCx]; exact mem_cons_in (L := fun cs : Code × σ => recI l { r with state := .done, pending := some cs.1 } :: (X ++ updL A (ti cs.2))) (c, s') h M
  obtain ⟨s, hi, M⟩ : ∃ s, inv pre s ∧ Mem w0 W ((recI l { r with state := .ready } :: (X ++ updL A (ti s))) ++ (T x ++ js)) := by
    rw [hC] at M; exact mem_cons_out M
  clear hC hCx
  have hrd : ({ r with state := .ready } : Loop) = r := by rw [hr]
  have hlook : W.heap[l]? = some (.loop r) := by
    have := (mem_rec r M (n := 0) rfl).1
    rwa [hrd] at this
  have hy := run_yield (P := Try.prog) (args := #[val x]) hlook (by rw [hr]; rfl)
  have back : ∀ (r' : Loop) (is' : List Itm) (W' : World), Mem w0 W' (recI l r' :: (is' ++ [tailI (X ++ js)])) → Mem w0 W' ((recI l r' :: (X ++ is')) ++ js) := fun r' is' W' M' => by
    have h2 := mem_tail_out (L := recI l r' :: is') M'
    refine mem_perm (List.Perm.cons _ ?_) h2
    show (is' ++ (X ++ js)).Perm ((X ++ is') ++ js)
    rw [← List.append_assoc]
    exact List.Perm.append_right js List.perm_append_comm
  have M1 : Mem w0 W (recI l { r with state := .ready } :: (updL A (ti s) ++ tailI (X ++ js) :: T x)) := by
    have h1 : Mem w0 W ((recI l { r with state := .ready } :: (updL A (ti s) ++ T x)) ++ (X ++ js)) := mem_perm (by
      show ((recI l _ :: (X ++ updL A (ti s))) ++ (T x ++ js)).Perm _
      refine List.Perm.cons _ ?_
      show ((X ++ updL A (ti s)) ++ (T x ++ js)).Perm ((updL A (ti s) ++ T x) ++ (X ++ js))
      rw [List.append_assoc X, ← List.append_assoc (updL A (ti s)), ← List.append_assoc X, ← List.append_assoc (updL A (ti s) ++ T x)]
      exact List.Perm.append_right js List.perm_append_comm) M
    refine mem_perm (List.Perm.cons _ ?_) (mem_tail_in h1)
    show ((updL A (ti s) ++ T x) ++ [tailI (X ++ js)]).Perm _
    rw [List.append_assoc]
    exact List.Perm.append_left _ (List.perm_append_singleton _ _)
  refine ⟨fnr, _, assign, body, by rw [hr] at hy; exact hy, roundIn_of_wpIn trivial ?_⟩
  have hfold : (#[p].zip #[val x]).foldl (fun tmps (t, a) => tmps.setIfInBounds t a) a.tmps = a.tmps.setIfInBounds p (val x) := by simp
  refine round l r (X ++ js) pre x s hi hpre _ (roundPost Try.prog l (fun e W' => (e = .returned (.bool true) ∧ Mem w0 W' (C (pre ++ [x]) :: js)) ∨ (e = .returned (.bool false) ∧ Mem w0 W' (Cx (pre ++ [x]) :: js)))) (fun _ _ _ _ h => h.elim) (fun is' e' hG w' a' M' F' => ?_) (fun s' e' hi' w' a' M' F' => ?_) (fun s' e' hi' w' a' M' F' => ?_) (fun id s' e' hi' w' a' M' F' => ?_) W _ M1 (by
    have := fit_round (l := l) (v := val x) F hN
    rw [← hfold] at this
    exact this) (fun _ => ⟨hca, fun _ _ h => h⟩)
  · obtain ⟨h1, h2⟩ := mem_rec { r with state := .busy } M' (n := 0) rfl
    exact ⟨_, run_beginRound h1 rfl, hG _ _ h2 F' (fun _ => ⟨hcb, fun _ _ h => h⟩)⟩
  · obtain ⟨h1, h2⟩ := mem_rec { r with state := .ready, pending := none } M' (n := 0) rfl
    refine ⟨_, _, run_endRound none h1, .inl ⟨rfl, ?_⟩⟩
    have e1 : ({ r with state := .ready, pending := none } : Loop) = { r with state := .ready } := by rw [hr]
    have h3 : Mem w0 (w'.putObj l (.loop { r with state := .ready, pending := none })) ((recI l { r with state := .ready } :: (X ++ updL A (ti s'))) ++ js) := by
      have := back _ _ _ h2
      rw [e1] at this ⊢
      exact this
    exact inC _ s' _ hi' h3
  · obtain ⟨h1, h2⟩ := mem_rec { r with state := .done, pending := some .ret } M' (n := 0) rfl
    exact ⟨_, _, run_endRound (some .ret) h1, .inr ⟨rfl, inX _ .ret s' _ ⟨trivial, hi'⟩ (back _ _ _ h2)⟩⟩
  · obtain ⟨h1, h2⟩ := mem_rec { r with state := .done, pending := some (.exit id) } M' (n := 0) rfl
    exact ⟨_, _, run_endRound (some (.exit id)) h1, .inr ⟨rfl, inX _ (.exit id) s' _ ⟨trivial, hi'⟩ (back _ _ _ h2)⟩⟩

/-- The loop, in a call's own frame: it leaves a mark. B: the things of the iterator. -/
theorem gc_rangeF (nA : Nat) {X : List Itm} {Ds : List Nat} {nf : Nat} (hB : X.drop nA = B) (hg : evo e g = some (.func (.func gf) #[] lb.toArray)) (hfn : Try.prog.funcs[gf]? = some fn) (hb : fn.body.isNone = false) (hn : (fn.name == "runtime.NumGoroutine") = false) (hN : Nat.blt p nf = true)
    (hseq : SeqC w0 B gf lb val T dec L) (ti : σ → List (Nat × Itm)) (inv : List α → σ → Prop) (invX : Code → List α → σ → Prop) (s0 : σ) (h0 : inv [] s0) (hA : updL (X.take nA) (ti s0) = X.take nA) (hca : calmC assign = true) (hcb : calmC body = true)
    (round : RoundC w0 nf assign body p e val T dec L (X.take nA) ti inv invX)
    (done : ∀ (D : Nat) xs s, xs.map dec = L → inv xs s → GK w0 (dfsI (D :: Ds) :: (updL (X.take nA) (ti s) ++ B)) ⟨nf, D :: Ds, none⟩ (Q .normal) e)
    (stopR : ∀ (D : Nat) pre s, pre.map dec <+: L → invX .ret pre s → GK w0 (dfsI (D :: Ds) :: (updL (X.take nA) (ti s) ++ B)) ⟨nf, D :: Ds, none⟩ (Q .ret) e)
    (stopE : ∀ (D : Nat) id pre s, pre.map dec <+: L → invX (.exit id) pre s → GK w0 (dfsI (D :: Ds) :: (updL (X.take nA) (ti s) ++ B)) ⟨nf, D :: Ds, none⟩ (Q (.exit id)) e) :
    GC w0 (dfsI Ds :: X) ⟨nf, Ds, none⟩ (.rangeFunc g #[p] assign body) Q e := by
  intro w a M F R
  refine wpIn_rangeFunc ?_
  intro fnr _
  rw [show (At (⟨nf, Ds, none⟩ : Frm).rd).round = none from rfl]
  obtain ⟨r, hr⟩ : ∃ r : Loop, r = { state := .ready, pending := none, fn := fnr, tmps := a.tmps, params := #[p], assign, body, defers := w.heap.size } := ⟨_, rfl⟩
  obtain ⟨W1, hW1⟩ : ∃ W1, (w.alloc (.deferred (some []))).alloc (.loop r) = W1 := ⟨_, rfl⟩
  have hrd : ({ r with state := .ready } : Loop) = r := by rw [hr]
  have M0 := mem_dfs_new M (n := 0) rfl
  have M1 : Mem w0 W1 ((recI (w.heap.size + 1) { r with state := .ready } :: ([dfsI (w.heap.size :: Ds)] ++ updL (X.take nA) (ti s0))) ++ B) := by
    have h1 := mem_rec_new r M0
    rw [hW1, World.size_alloc] at h1
    rw [hrd, hA]
    refine mem_perm ?_ h1
    show ((dfsI (w.heap.size :: Ds) :: X) ++ [recI (w.heap.size + 1) r]).Perm _
    refine (List.perm_append_singleton _ _).trans (List.Perm.cons _ ?_)
    show (dfsI (w.heap.size :: Ds) :: X).Perm (([dfsI (w.heap.size :: Ds)] ++ X.take nA) ++ B)
    rw [← hB, List.append_assoc, List.take_append_drop]
    exact List.Perm.refl _
  have hY := yieldC_of (l := w.heap.size + 1) (r := r) (X := [dfsI (w.heap.size :: Ds)]) (fnr := fnr) (N := ⟨nf, Ds, none⟩) F hN hca hcb (by rw [hr]) round
  refine ⟨w.heap.size + 1, [markD w.heap.size], W1, { target := .fn (.func gf) lb.toArray, args := #[.func (.yield (w.heap.size + 1)) #[] #[]] }, W1, gf, #[.func (.yield (w.heap.size + 1)) #[] #[]] ++ lb.toArray, W1, ?_, ?_, fun _ _ => trivial, ?_, (fun h => by cases h), ?_⟩
  · rw [← hW1, hr]; exact run_enterLoop_outer _ _ _ _ _
  · simp only [resolve, fit_eval F hg]
    simp [go_sem, Act.eval]
  · simp [invoke, go_sem, run_invokeF hfn hb hn]
  · have hc := hseq _ _ _ hY W1 (mem_cons_in s0 h0 M1)
    rw [show (Value.func (.yield (w.heap.size + 1)) #[] #[] :: lb).toArray = #[.func (.yield (w.heap.size + 1)) #[] #[]] ++ lb.toArray by simp] at hc
    refine calls_in (hc.mono ?_)
    have F' : Fit ⟨nf, w.heap.size :: Ds, none⟩ e { a with defers := [markD w.heap.size] ++ a.defers } := ⟨F.size, by simp [F.defers], F.at_⟩
    have take : ∀ (r' : Loop) (s : σ) (W : World), Mem w0 W ((recI (w.heap.size + 1) r' :: ([dfsI (w.heap.size :: Ds)] ++ updL (X.take nA) (ti s))) ++ B) → W.heap[w.heap.size + 1]? = some (.loop r') ∧
        Mem w0 (W.putObj (w.heap.size + 1) (.loop { r' with state := .exhausted })) (dfsI (w.heap.size :: Ds) :: (updL (X.take nA) (ti s) ++ B)) := fun r' s W M' => by
      obtain ⟨h1, h2⟩ := mem_rec { r' with state := .exhausted } M' (n := 0) rfl
      exact ⟨h1, mem_erase 0 h2⟩
    rintro e' W2 ⟨⟨v, rfl⟩, (⟨xs, hL, M2⟩ | ⟨pre, hL, M2⟩)⟩
    · obtain ⟨s, hi, M3⟩ := mem_cons_out M2
      obtain ⟨h1, h2⟩ := take _ s W2 M3
      refine ⟨none, _, ?_, done _ xs s hL hi _ _ h2 F'⟩
      have := run_endLoop (P := Try.prog) h1 (by simp)
      rw [this]
      rw [show ({ r with state := .ready } : Loop).pending = none by rw [hr]]
    · obtain ⟨⟨c, s⟩, ⟨hj, hi⟩, M3⟩ := mem_cons_out M2
      obtain ⟨h1, h2⟩ := take _ s W2 M3
      refine ⟨some c, _, run_endLoop (P := Try.prog) h1 (by simp), ?_⟩
      cases c <;> first | exact hj.elim | skip
      · exact wpIn_exit (stopE _ _ pre s hL hi _ _ h2 F')
      · exact wpIn_ret (stopR _ pre s hL hi _ _ h2 F')
/-- The loop within a round of another. -/
theorem gc_rangeN (nA : Nat) {X : List Itm} {l0 : Nat} {r0 : Loop} {nf : Nat} (hB : X.drop nA = B) (hg : evo e g = some (.func (.func gf) #[] lb.toArray)) (hfn : Try.prog.funcs[gf]? = some fn) (hb : fn.body.isNone = false) (hn : (fn.name == "runtime.NumGoroutine") = false) (hN : Nat.blt p nf = true)
    (hseq : SeqC w0 B gf lb val T dec L) (ti : σ → List (Nat × Itm)) (inv : List α → σ → Prop) (invX : Code → List α → σ → Prop) (s0 : σ) (h0 : inv [] s0) (hA : updL (X.take nA) (ti s0) = X.take nA) (hca : calmC assign = true) (hcb : calmC body = true)
    (round : RoundC w0 nf assign body p e val T dec L (X.take nA) ti inv invX)
    (done : ∀ xs s, xs.map dec = L → inv xs s → GK w0 (recI l0 r0 :: (updL (X.take nA) (ti s) ++ B)) ⟨nf, [], some l0⟩ (Q .normal) e)
    (stopR : ∀ pre s, pre.map dec <+: L → invX .ret pre s → GK w0 (recI l0 r0 :: (updL (X.take nA) (ti s) ++ B)) ⟨nf, [], some l0⟩ (Q .ret) e)
    (stopE : ∀ id pre s, pre.map dec <+: L → invX (.exit id) pre s → GK w0 (recI l0 r0 :: (updL (X.take nA) (ti s) ++ B)) ⟨nf, [], some l0⟩ (Q (.exit id)) e) :
    GC w0 (recI l0 r0 :: X) ⟨nf, [], some l0⟩ (.rangeFunc g #[p] assign body) Q e := by
  intro w a M F R
  refine wpIn_rangeFunc ?_
  intro fnr _
  rw [show (At (⟨nf, [], some l0⟩ : Frm).rd).round = some l0 from rfl]
  obtain ⟨r, hr⟩ : ∃ r : Loop, r = { state := .ready, pending := none, fn := fnr, tmps := a.tmps, params := #[p], assign, body, defers := r0.defers } := ⟨_, rfl⟩
  obtain ⟨W1, hW1⟩ : ∃ W1, w.alloc (.loop r) = W1 := ⟨_, rfl⟩
  have hrd : ({ r with state := .ready } : Loop) = r := by rw [hr]
  have hl0 := (mem_rec r0 M (n := 0) rfl).1
  have M1 : Mem w0 W1 ((recI w.heap.size { r with state := .ready } :: ([recI l0 r0] ++ updL (X.take nA) (ti s0))) ++ B) := by
    have h1 := mem_rec_new r M
    rw [hW1] at h1
    rw [hrd, hA]
    refine mem_perm ?_ h1
    refine (List.perm_append_singleton _ _).trans (List.Perm.cons _ ?_)
    show (recI l0 r0 :: X).Perm (([recI l0 r0] ++ X.take nA) ++ B)
    rw [← hB, List.append_assoc, List.take_append_drop]
    exact List.Perm.refl _
  have hY := yieldC_of (l := w.heap.size) (r := r) (X := [recI l0 r0]) (fnr := fnr) (N := ⟨nf, [], some l0⟩) F hN hca hcb (by rw [hr]) round
  refine ⟨w.heap.size, [], W1, { target := .fn (.func gf) lb.toArray, args := #[.func (.yield w.heap.size) #[] #[]] }, W1, gf, #[.func (.yield w.heap.size) #[] #[]] ++ lb.toArray, W1, ?_, ?_, fun _ _ => trivial, ?_, (fun h => by cases h), ?_⟩
  · rw [← hW1, hr]; exact run_enterLoop_inner hl0 _ _ _ _ _
  · simp only [resolve, fit_eval F hg]
    simp [go_sem, Act.eval]
  · simp [invoke, go_sem, run_invokeF hfn hb hn]
  · have hc := hseq _ _ _ hY W1 (mem_cons_in s0 h0 M1)
    rw [show (Value.func (.yield w.heap.size) #[] #[] :: lb).toArray = #[.func (.yield w.heap.size) #[] #[]] ++ lb.toArray by simp] at hc
    refine calls_in (hc.mono ?_)
    have take : ∀ (r' : Loop) (s : σ) (W : World), Mem w0 W ((recI w.heap.size r' :: ([recI l0 r0] ++ updL (X.take nA) (ti s))) ++ B) → W.heap[w.heap.size]? = some (.loop r') ∧
        Mem w0 (W.putObj w.heap.size (.loop { r' with state := .exhausted })) (recI l0 r0 :: (updL (X.take nA) (ti s) ++ B)) := fun r' s W M' => by
      obtain ⟨h1, h2⟩ := mem_rec { r' with state := .exhausted } M' (n := 0) rfl
      exact ⟨h1, mem_erase 0 h2⟩
    rintro e' W2 ⟨⟨v, rfl⟩, (⟨xs, hL, M2⟩ | ⟨pre, hL, M2⟩)⟩
    · obtain ⟨s, hi, M3⟩ := mem_cons_out M2
      obtain ⟨h1, h2⟩ := take _ s W2 M3
      refine ⟨none, _, ?_, done xs s hL hi _ _ h2 F⟩
      have := run_endLoop (P := Try.prog) h1 (by simp)
      rw [this]
      rw [show ({ r with state := .ready } : Loop).pending = none by rw [hr]]
    · obtain ⟨⟨c, s⟩, ⟨hj, hi⟩, M3⟩ := mem_cons_out M2
      obtain ⟨h1, h2⟩ := take _ s W2 M3
      refine ⟨some c, _, run_endLoop (P := Try.prog) h1 (by simp), ?_⟩
      cases c <;> first | exact hj.elim | skip
      · exact wpIn_exit (stopE _ pre s hL hi _ _ h2 F)
      · exact wpIn_ret (stopR pre s hL hi _ _ h2 F)
end

/-! ### The function's ends -/
theorem leaves_marks {fn : Func} {tmps : Array Value} {R : Ending → World → Prop} {n : Nat} : ∀ (Ds : List Nat) {is : List Itm} (w : World), is[n]? = some (dfsI Ds) → Mem w0 w is →
    (∀ w', Mem w0 w' (is.set n nilI) → LeavesIn (At none) 0 Try.prog fn tmps R [] .returning w') → LeavesInM (At none) 0 Try.prog fn tmps R (Ds.map markD) .returning w
  | [], is, w, hi, M, h => by
    refine h w ?_
    obtain ⟨S, _, _, hset⟩ := mem_set M hi
    exact hset w nilI (FrS.refl _ _) trivial
  | D :: Ds, is, w, hi, M, h => by
    obtain ⟨S, _, hp, hset⟩ := mem_set M hi
    obtain ⟨h1, h2⟩ := hp.1 D (List.mem_cons_self ..)
    have hl := (Array.getElem?_eq_some_iff.1 h1).1
    have hnd := List.nodup_cons.1 hp.2
    have M' : Mem w0 (w.putObj D (.deferred none)) (is.set n (dfsI Ds)) := hset _ _ (frS_putObj h2) ⟨fun E hE => by
      obtain ⟨h3, h4⟩ := hp.1 E (List.mem_cons_of_mem _ hE)
      have hne : E ≠ D := by rintro rfl; exact hnd.1 hE
      exact ⟨(World.putObj_heap_other hne).trans h3, .inl h4⟩, hnd.2⟩
    have hn : n < is.length := (List.getElem?_eq_some_iff.1 hi).1
    have ih := leaves_marks (fn := fn) (tmps := tmps) (R := R) (n := n) Ds (w.putObj D (.deferred none)) (is := is.set n (dfsI Ds)) (by simp [hn]) M' fun w' M2 => h w' (by simpa using M2)
    exact ⟨by simp, .inl ⟨D, _, rfl, run_takeDeferred h1, ih⟩⟩
/-- What the body of such a function must achieve; it ends in no panic. -/
def postM (fn : Func) (R : Ending → World → Prop) : Exit → Act → World → Prop
  | .panic _, _, _ => False
  | e, a, w => bodyPostM (At none) 0 Try.prog fn R e a w
theorem postM_sub {fn : Func} {R : Ending → World → Prop} {e : Exit} {a : Act} {w : World} (h : postM fn R e a w) : bodyPostM (At none) 0 Try.prog fn R e a w := by
  cases e <;> first | exact h | exact h.elim
/-- A return: the marks are taken off. -/
theorem gk_marks {fn : Func} {R : Ending → World → Prop} {n : Nat} {Ds : List Nat} (hi : is[n]? = some (dfsI Ds)) (hds : N.ds = Ds) (h : GK w0 (is.set n nilI) (Frm.of N.n) (bodyPost Try.prog fn R .ret) e) : GK w0 is N (postM fn R .ret) e := by
  intro w a M F
  show LeavesInM _ _ _ _ _ _ a.defers _ w
  rw [F.defers, hds]
  exact leaves_marks Ds w hi M fun w' M' => (h w' { a with defers := [] } M' ⟨F.size, rfl, F.at_⟩).2
theorem gk_marksn {fn : Func} {R : Ending → World → Prop} {n : Nat} {Ds : List Nat} (hi : is[n]? = some (dfsI Ds)) (hds : N.ds = Ds) (h : GK w0 (is.set n nilI) (Frm.of N.n) (bodyPost Try.prog fn R .normal) e) : GK w0 is N (postM fn R .normal) e := gk_marks hi hds h
/-- The entry of a function that ranges over functions, or is handed things of the caller's. -/
theorem gc_enterK {f : FuncId} {c : Code} {args : List Value} {w : World} {R : Ending → World → Prop} {nf : Nat} {fn : Func} (M : Mem w0 w is) (hf : Try.prog.funcs[f]? = some fn) (hb : fn.body = some c) (hN : fn.ntmps = nf) (ha : args.length ≤ nf)
    (he : ∀ t v, look e t = some v → (args ++ List.replicate (nf - args.length) undef)[t]? = some v) (h : GC w0 (dfsI [] :: is) ⟨nf, [], none⟩ c (postM fn R) e) : Calls Try.prog f args.toArray w R := by
  refine calls_out (n := 0) (callsIn_of_wp_marks hf hb trivial (wpIn_mono (Q := postM fn R) ?_ fun _ _ _ => postM_sub) rfl)
  have M' : Mem w0 w (dfsI [] :: is) := ⟨M.1, fun _ => False, fun k => w0.heap.size ≤ k, fun _ h => h.elim, fun _ h => h, fun _ h => h.elim, ⟨(fun D hD => by cases hD), List.nodup_nil⟩, M.2⟩
  refine h w _ M' ⟨?_, rfl, fun t v hv => ?_⟩ (fun h => absurd rfl h)
  · rw [hN]; simp; omega
  · have := he t v hv
    rw [hN]
    have e1 : (args.toArray ++ Array.replicate (nf - args.toArray.size) undef) = (args ++ List.replicate (nf - args.length) undef).toArray := by simp
    show (args.toArray ++ Array.replicate (nf - args.toArray.size) undef)[t]? = some v
    rw [e1]; simpa using this

/-! ### The iterator: a call of yield -/
theorem run_yieldV {o : Oper} {x y : Operand} {ts : Array TypeId} {l : Nat} {v : Value} {a : Act} {w w' : World} {r : Next} (hop : o.op = .call { callee := .value x, args := #[y], argTypes := ts }) (hx : evo e x = some (.func (.yield l) #[] #[])) (hy : evo e y = some v) (F : Fit N e a)
    (hr : (Instr.yield l #[v]).run Try.prog w = .ok r w') : (execOp a.eval o).run Try.prog w = .ok r w' := by
  simp [execOp, hop, resolve, fit_eval F hx, fit_eval F hy, Deferred.ofValue, invoke, hr]
theorem g_yield {α β : Type} {ops : Array Oper} {o : Oper} {rest : List Oper} {d l : Nat} {x y : Operand} {ts : Array TypeId} {C Cx : List α → Itm} {val : α → Value} {T : α → List Itm} {dec : α → β} {L : List β} {pre : List α} (z : α) {js : List Itm}
    (hw : Want ops e o true) (hd : o.dst = some d) (hN : Nat.blt d N = true) (hop : o.op = .call { callee := .value x, args := #[y], argTypes := ts }) (hx : evo e x = some (.func (.yield l) #[] #[])) (hy : evo e y = some (val z)) (Y : YieldC w0 C Cx l val T dec L)
    (hpre : ((pre ++ [z]).map dec) <+: L) (his : is.Perm (C pre :: (T z ++ js))) (h1 : G w0 (C (pre ++ [z]) :: js) N ops Q rest ((d, .bool true) :: e)) (h2 : G w0 (Cx (pre ++ [z]) :: js) N ops Q rest ((d, .bool false) :: e)) : G w0 is N ops Q (o :: rest) e := by
  intro w a M F R
  unfold wpListIn
  rw [if_pos (want_eq hw F)]
  refine ⟨fun _ _ => trivial, ?_⟩
  obtain ⟨fnr, tmps, assign, body, hr, hR⟩ := Y w js pre z hpre (mem_perm his M)
  rw [show (At N.rd).round = N.rd from rfl, calm_sem R.o, run_yieldV hop hx hy F hr, Oper.uponIn_round]
  refine ⟨(fun h => by cases h), ?_⟩
  refine RoundIn.mono (F := At N.rd) hR fun e' W' h => ?_
  rcases h with ⟨rfl, M'⟩ | ⟨rfl, M'⟩
  · show wpListIn _ _ _ _ _ _ (Act.put a o.dst _) W'
    rw [hd]
    exact h1 _ _ M' (fit_put F hN) R.r
  · show wpListIn _ _ _ _ _ _ (Act.put a o.dst _) W'
    rw [hd]
    exact h2 _ _ M' (fit_put F hN) R.r
/-- What follows is in a frame that may have more marks. -/
theorem gc_seqD {nf : Nat} {Ds : List Nat} {rd : Option Nat} {x y : Code} (h : ∀ K : Act → World → Prop, (∀ {Ds : List Nat} (is : List Itm) (e : Env), GC w0 is ⟨nf, Ds, rd⟩ y Q e → GK w0 is ⟨nf, Ds, rd⟩ K e) → GC w0 is ⟨nf, Ds, rd⟩ x (Exit.then K Q) e) : GC w0 is ⟨nf, Ds, rd⟩ (.seq x y) Q e :=
  fun w a M F R => wpIn_seq (h _ (fun _ _ hy w a M F => hy w a M F (rdy_r (N := ⟨nf, Ds, rd⟩) R)) w a M F (rdy_l R))
theorem gc_perm {c : Code} {js : List Itm} (h : is.Perm js) (hk : GC w0 js N c Q e) : GC w0 is N c Q e := fun w a M F => hk w a (mem_perm h M) F
theorem gk_perm {K : Act → World → Prop} {js : List Itm} (h : is.Perm js) (hk : GK w0 js N K e) : GK w0 is N K e := fun w a M F => hk w a (mem_perm h M) F
theorem gc_loopD {nf : Nat} {Ds0 : List Nat} {c : Code} {σ : Type} (C : Env) (E : σ → Env) (ti : σ → List (Nat × Itm)) (D : σ → List Nat) (inv : σ → Prop) (μ : σ → Nat) (s0 : σ)
    (hC : Sub (E s0 ++ C) e) (ht : updL is (ti s0) = is) (hD : D s0 = Ds0) (h0 : inv s0)
    (round : ∀ s, inv s → ∀ K : Act → World → Prop, (∀ s', inv s' → μ s' < μ s → GK w0 (updL is (ti s')) ⟨nf, D s', none⟩ K (E s' ++ C)) → GC w0 (updL is (ti s)) ⟨nf, D s, none⟩ c (Exit.then K Q) (E s ++ C)) :
    GC w0 is ⟨nf, Ds0, none⟩ (.loop c) Q e := by
  intro w a M F R
  subst hD
  refine wpIn_loop (fun a w => ∃ s, inv s ∧ Fit ⟨nf, D s, none⟩ (E s ++ C) a ∧ Mem w0 w (updL is (ti s)))
    (fun a w => leastN fun n => ∃ s, inv s ∧ Fit ⟨nf, D s, none⟩ (E s ++ C) a ∧ Mem w0 w (updL is (ti s)) ∧ μ s = n) ⟨s0, h0, fit_sub hC F, by rw [ht]; exact M⟩ ?_
  rintro a w ⟨s1, i1, ha, hM⟩
  obtain ⟨⟨s, hi, ha2, hM2, hmu⟩, _⟩ := leastN_spec (p := fun n => ∃ s, inv s ∧ Fit ⟨nf, D s, none⟩ (E s ++ C) a ∧ Mem w0 w (updL is (ti s)) ∧ μ s = n) ⟨s1, i1, ha, hM, rfl⟩
  have hr := round s hi (fun a' w' => ∃ s', inv s' ∧ μ s' < μ s ∧ Fit ⟨nf, D s', none⟩ (E s' ++ C) a' ∧ Mem w0 w' (updL is (ti s'))) (fun s' h1 h2 w' a' M' F' => ⟨s', h1, h2, F', M'⟩) w a hM2 ha2 (fun h => absurd rfl h)
  refine Code.wpIn_mono (fun e a' w' q => ?_) hr
  cases e with
  | normal =>
    obtain ⟨s', h1, h2, h3, h4⟩ := q
    refine ⟨⟨s', h1, h3, h4⟩, ?_⟩
    have := (leastN_spec (p := fun n => ∃ s, inv s ∧ Fit ⟨nf, D s, none⟩ (E s ++ C) a' ∧ Mem w0 w' (updL is (ti s)) ∧ μ s = n) ⟨s', h1, h3, h4, rfl⟩).2
    show leastN _ < leastN _
    omega
  | exit _ => exact q
  | goto _ => exact q
  | ret => exact q
  | panic _ => exact q
  | outgrown => exact q
end
end Go.Proofs.Ytgkfampgofjkfaa
