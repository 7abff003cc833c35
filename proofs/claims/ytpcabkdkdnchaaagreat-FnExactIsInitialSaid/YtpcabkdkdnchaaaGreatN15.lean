import Derived.Test.YtpcabkdkdnchaaaGreatN14
import Derived.RangeFuncNested
import Derived.Test.YtpcabkdkdnchaaaGreatN12
set_option linter.unusedSimpArgs false
set_option linter.unusedVariables false
set_option linter.unusedSectionVars false
namespace Go.Proofs.YtpcabkdkdnchaaaGreat
open Go.RowKit
theorem dfs_loc (Ds : List Nat) : Loc (fun w S => (∀ D ∈ Ds, w.heap[D]? = some (.deferred (some [])) ∧ S D) ∧ Ds.Nodup) where
  keep hs ha h := ⟨fun D hD => by
    obtain ⟨h1, h2⟩ := h.1 D hD
    have hl := (Array.getElem?_eq_some_iff.1 h1).1
    exact ⟨(ha D hl h2).trans h1, hs D hl h2⟩, h.2⟩
def dfsI (Ds : List Nat) : Itm := ⟨_, dfs_loc Ds⟩
theorem rec_loc (l : Nat) (r : Loop) : Loc (fun w S => w.heap[l]? = some (.loop r) ∧ S l) where
  keep hs ha h := by
    have hl := (Array.getElem?_eq_some_iff.1 h.1).1
    exact ⟨(ha l hl h.2).trans h.1, hs l hl h.2⟩
def recI (l : Nat) (r : Loop) : Itm := ⟨_, rec_loc l r⟩
theorem cons_loc {σ : Type} (L : σ → List Itm) (inv : σ → Prop) : Loc (fun w S => ∃ s, inv s ∧ Star (L s) w S) where
  keep hs ha h := by obtain ⟨s, hi, h⟩ := h; exact ⟨s, hi, star_keep _ hs ha h⟩
def consI {σ : Type} (L : σ → List Itm) (inv : σ → Prop) : Itm := ⟨_, cons_loc L inv⟩
def nilI : Itm := ⟨fun _ _ => True, ⟨fun _ _ _ => trivial⟩⟩
section
variable {w0 : World} {is : List Itm} {Q : Exit → Act → World → Prop} {N : Frm} {e : Env}
theorem frS_putObj {S : Nat → Prop} {w : World} {l : Nat} {o : Obj} (h : S l) : FrS S w (w.putObj l o) := ⟨rfl, rfl, rfl, by simp, fun k _ hr => World.putObj_heap_other (fun e => hr (e ▸ h))⟩
theorem mem_rec {w : World} {n l : Nat} {r : Loop} (r' : Loop) (M : Mem w0 w is) (h : is[n]? = some (recI l r)) : w.heap[l]? = some (.loop r) ∧ Mem w0 (w.putObj l (.loop r')) (is.set n (recI l r')) := by
  obtain ⟨S, hS, hp, hset⟩ := mem_set M h
  have hl := (Array.getElem?_eq_some_iff.1 hp.1).1
  exact ⟨hp.1, hset _ _ (frS_putObj hp.2) ⟨World.putObj_heap_same hl, .inl hp.2⟩⟩
theorem below_allocO (w : World) (o : Obj) : Below w.heap.size w (w.alloc o) := (Below.refl _ w).alloc (Nat.le_refl _) _
theorem mem_rec_new {w : World} (r : Loop) (M : Mem w0 w is) : Mem w0 (w.alloc (.loop r)) (is ++ [recI w.heap.size r]) :=
  mem_new M (below_allocO w _) ⟨World.alloc_heap_new w _, Nat.le_refl _⟩
theorem mem_dfs_new {w : World} {n : Nat} {Ds : List Nat} (M : Mem w0 w is) (h : is[n]? = some (dfsI Ds)) : Mem w0 (w.alloc (.deferred (some []))) (is.set n (dfsI (w.heap.size :: Ds))) := by
  obtain ⟨S, hS, hp, hset⟩ := mem_set M h
  refine hset _ _ ⟨rfl, rfl, rfl, by simp, fun k hk _ => Below.heap_alloc w _ k hk⟩ ⟨fun D hD => ?_, ?_⟩
  · rcases List.mem_cons.1 hD with rfl | hD
    · exact ⟨World.alloc_heap_new w _, .inr (Nat.le_refl _)⟩
    · obtain ⟨h1, h2⟩ := hp.1 D hD
      exact ⟨(Below.heap_alloc w _ D (Array.getElem?_eq_some_iff.1 h1).1).trans h1, .inl h2⟩
  · refine List.nodup_cons.2 ⟨fun hD => ?_, hp.2⟩
    have := (Array.getElem?_eq_some_iff.1 (hp.1 _ hD).1).1
    omega
theorem star_split : ∀ (is js : List Itm) {w : World} {S : Nat → Prop}, Star (is ++ js) w S → ∃ S1 S2 : Nat → Prop, (∀ k, S1 k → S k) ∧ (∀ k, S2 k → S k) ∧ (∀ k, S1 k → ¬ S2 k) ∧ Star is w S1 ∧ Star js w S2
  | [], js, w, S, h => ⟨fun _ => False, S, fun _ h => h.elim, fun _ h => h, fun _ h => h.elim, trivial, h⟩
  | i :: is, js, w, S, ⟨S1, S2, k1, k2, kd, h1, h2⟩ => by
    obtain ⟨T1, T2, t1, t2, td, h3, h4⟩ := star_split is js h2
    exact ⟨fun k => S1 k ∨ T1 k, T2, fun k h => h.elim (k1 k) (fun h => k2 k (t1 k h)), fun k h => k2 k (t2 k h), fun k a b => a.elim (fun a => kd k a (t2 k b)) (fun a => td k a b), ⟨S1, T1, fun k h => .inl h, fun k h => .inr h, fun k a b => kd k a (t1 k b), h1, h3⟩, h4⟩
theorem mem_cons_out {σ : Type} {L : σ → List Itm} {inv : σ → Prop} {js : List Itm} {w : World} (M : Mem w0 w (consI L inv :: js)) : ∃ s, inv s ∧ Mem w0 w (L s ++ js) := by
  obtain ⟨hb, S1, S2, k1, k2, kd, ⟨s, hi, h1⟩, h2⟩ := M
  exact ⟨s, hi, hb, star_app _ _ k1 k2 kd h1 h2⟩
theorem mem_cons_in {σ : Type} {L : σ → List Itm} {inv : σ → Prop} {js : List Itm} {w : World} (s : σ) (hi : inv s) (M : Mem w0 w (L s ++ js)) : Mem w0 w (consI L inv :: js) := by
  obtain ⟨S1, S2, k1, k2, kd, h1, h2⟩ := star_split _ _ M.2
  exact ⟨M.1, S1, S2, k1, k2, kd, ⟨s, hi, h1⟩, h2⟩
def YieldC {α β : Type} (w0 : World) (C Cx : List α → Itm) (l : Nat) (val : α → Value) (T : α → List Itm) (dec : α → β) (L : List β) : Prop :=
  ∀ (W : World) (js : List Itm) (pre : List α) (x : α), ((pre ++ [x]).map dec) <+: L → Mem w0 W (C pre :: (T x ++ js)) → YieldAt Fence.wide 0 Tryz.prog l #[val x] W fun e W' =>
    (e = .returned (.bool true) ∧ Mem w0 W' (C (pre ++ [x]) :: js)) ∨ (e = .returned (.bool false) ∧ Mem w0 W' (Cx (pre ++ [x]) :: js))
def SeqC {α β : Type} (w0 : World) (B : List Itm) (gf : Nat) (lb : List Value) (val : α → Value) (T : α → List Itm) (dec : α → β) (L : List β) : Prop :=
  ∀ (C Cx : List α → Itm) (l : Nat), YieldC w0 C Cx l val T dec L → ∀ W, Mem w0 W (C [] :: B) → Calls Tryz.prog gf (.func (.yield l) #[] #[] :: lb).toArray W fun e W' =>
    (∃ v, e = .returned v) ∧ ((∃ xs, xs.map dec = L ∧ Mem w0 W' (C xs :: B)) ∨ (∃ pre, (pre.map dec) <+: L ∧ Mem w0 W' (Cx pre :: B)))
def jumpC : Code → Prop
  | .ret => True
  | .exit _ => True
  | _ => False
theorem run_invokeF {gf : Nat} {fn : Func} (hfn : Tryz.prog.funcs[gf]? = some fn) (hb : fn.body.isNone = false) (hn : (fn.name == "runtime.NumGoroutine") = false) (args : Array Value) (w : World) : (callFunc gf args).run Tryz.prog w = .ok (.enter gf args) w := by
  have hb' : ¬ fn.body = none := fun h => by rw [h] at hb; simp at hb
  have hn' : ¬ fn.name = "runtime.NumGoroutine" := by simpa using hn
  simp [callFunc, hfn, hn', hb']
theorem fit_round {a : Act} {p l : Nat} {v : Value} (F : Fit N e a) (hp : Nat.blt p N = true) : Fit ⟨N.n, [], some l⟩ ((p, v) :: e) { tmps := a.tmps.setIfInBounds p v, defers := [] } := by
  have h0 : Fit ⟨N.n, [], some l⟩ e { tmps := a.tmps, defers := [] } := ⟨F.size, rfl, F.at_⟩
  have := fit_put (v := v) h0 hp
  exact ⟨this.size, rfl, this.at_⟩
section
variable {α β σ : Type} {g : Operand} {p gf : Nat} {assign body : Code} {fn : Func} {lb : List Value} {val : α → Value} {T : α → List Itm} {dec : α → β} {L : List β} {A B : List Itm}
  {ti : σ → List (Nat × Itm)} {inv : List α → σ → Prop} {invX : Code → List α → σ → Prop}
def RoundC (w0 : World) (n : Nat) (assign body : Code) (p : Nat) (e : Env) (val : α → Value) (T : α → List Itm) (dec : α → β) (L : List β) (A : List Itm) (ti : σ → List (Nat × Itm)) (inv : List α → σ → Prop) (invX : Code → List α → σ → Prop) : Prop :=
  ∀ (l : Nat) (r : Loop) (js : List Itm) (pre : List α) (x : α) (s : σ), inv pre s → ((pre ++ [x]).map dec) <+: L → ∀ (Ka : Act → World → Prop) (Qb : Exit → Act → World → Prop),
    (∀ ch a a' w, Qb (.panic ch) a w → Qb (.panic ch) a' w) →
    (∀ is' e', GC w0 (recI l { r with state := .busy } :: is') ⟨n, [], some l⟩ body Qb e' → GK w0 (recI l { r with state := .ready } :: is') ⟨n, [], some l⟩ Ka e') →
    (∀ s' e', inv (pre ++ [x]) s' → GK w0 (recI l { r with state := .busy } :: (updL A (ti s') ++ [tailI js])) ⟨n, [], some l⟩ (Qb .normal) e') →
    (∀ s' e', invX .ret (pre ++ [x]) s' → GK w0 (recI l { r with state := .busy } :: (updL A (ti s') ++ [tailI js])) ⟨n, [], some l⟩ (Qb .ret) e') →
    (∀ id s' e', invX (.exit id) (pre ++ [x]) s' → GK w0 (recI l { r with state := .busy } :: (updL A (ti s') ++ [tailI js])) ⟨n, [], some l⟩ (Qb (.exit id)) e') →
    GC w0 (recI l { r with state := .ready } :: (updL A (ti s) ++ tailI js :: T x)) ⟨n, [], some l⟩ assign (Exit.then Ka fun _ _ _ => False) ((p, val x) :: e)
theorem yieldC_of {a : Act} {fnr : Nat} {l : Nat} {r : Loop} {X : List Itm} (F : Fit N e a) (hN : Nat.blt p N = true) (hca : calmC assign = true) (hcb : calmC body = true)
    (hr : r = { state := .ready, pending := none, fn := fnr, tmps := a.tmps, params := #[p], assign, body, defers := r.defers })
    (round : RoundC w0 N.n assign body p e val T dec L A ti inv invX) :
    YieldC w0 (fun pre => consI (fun s => recI l { r with state := .ready } :: (X ++ updL A (ti s))) (inv pre))
      (fun pre => consI (fun cs : Code × σ => recI l { r with state := .done, pending := some cs.1 } :: (X ++ updL A (ti cs.2))) (fun cs => jumpC cs.1 ∧ invX cs.1 pre cs.2)) l val T dec L := by
  obtain ⟨C, hC⟩ : ∃ C : List α → Itm, C = fun pre => consI (fun s => recI l { r with state := .ready } :: (X ++ updL A (ti s))) (inv pre) := ⟨_, rfl⟩
  obtain ⟨Cx, hCx⟩ : ∃ C : List α → Itm, C = fun pre => consI (fun cs : Code × σ => recI l { r with state := .done, pending := some cs.1 } :: (X ++ updL A (ti cs.2))) (fun cs => jumpC cs.1 ∧ invX cs.1 pre cs.2) := ⟨_, rfl⟩
  rw [← hC, ← hCx]
  intro W js pre x hpre M
  have inC : ∀ ys s' W', inv ys s' → Mem w0 W' ((recI l { r with state := .ready } :: (X ++ updL A (ti s'))) ++ js) → Mem w0 W' (C ys :: js) := fun ys s' W' h M => by rw [hC]; exact mem_cons_in s' h M
  have inX : ∀ ys c s' W', jumpC c ∧ invX c ys s' → Mem w0 W' ((recI l { r with state := .done, pending := some c } :: (X ++ updL A (ti s'))) ++ js) → Mem w0 W' (Cx ys :: js) := fun ys c s' W' h M => by
    rw [hCx]; exact mem_cons_in (L := fun cs : Code × σ => recI l { r with state := .done, pending := some cs.1 } :: (X ++ updL A (ti cs.2))) (c, s') h M
  obtain ⟨s, hi, M⟩ : ∃ s, inv pre s ∧ Mem w0 W ((recI l { r with state := .ready } :: (X ++ updL A (ti s))) ++ (T x ++ js)) := by
    rw [hC] at M; exact mem_cons_out M
  clear hC hCx
  have hrd : ({ r with state := .ready } : Loop) = r := by rw [hr]
  have hlook : W.heap[l]? = some (.loop r) := by
    have := (mem_rec r M (n := 0) rfl).1
    rwa [hrd] at this
  have hy := run_yield (P := Tryz.prog) (args := #[val x]) hlook (by rw [hr]; rfl)
  have back : ∀ (r' : Loop) (is' : List Itm) (W' : World), Mem w0 W' (recI l r' :: (is' ++ [tailI (X ++ js)])) → Mem w0 W' ((recI l r' :: (X ++ is')) ++ js) := fun r' is' W' M' => by
    have h2 := mem_tail_out (L := recI l r' :: is') M'
    refine mem_perm (List.Perm.cons _ ?_) h2
    show (is' ++ (X ++ js)).Perm ((X ++ is') ++ js)
    rw [← List.append_assoc]
    exact List.Perm.append_right js List.perm_append_comm
  have M1 : Mem w0 W (recI l { r with state := .ready } :: (updL A (ti s) ++ tailI (X ++ js) :: T x)) := by
    have h1 : Mem w0 W ((recI l { r with state := .ready } :: (updL A (ti s) ++ T x)) ++ (X ++ js)) := mem_perm (by
      show ((recI l _ :: (X ++ updL A (ti s))) ++ (T x ++ js)).Perm _
      refine List.Perm.cons _ ?_
      show ((X ++ updL A (ti s)) ++ (T x ++ js)).Perm ((updL A (ti s) ++ T x) ++ (X ++ js))
      rw [List.append_assoc X, ← List.append_assoc (updL A (ti s)), ← List.append_assoc X, ← List.append_assoc (updL A (ti s) ++ T x)]
      exact List.Perm.append_right js List.perm_append_comm) M
    refine mem_perm (List.Perm.cons _ ?_) (mem_tail_in h1)
    show ((updL A (ti s) ++ T x) ++ [tailI (X ++ js)]).Perm _
    rw [List.append_assoc]
    exact List.Perm.append_left _ (List.perm_append_singleton _ _)
  refine ⟨fnr, _, assign, body, by rw [hr] at hy; exact hy, roundIn_of_wpIn trivial ?_⟩
  have hfold : (#[p].zip #[val x]).foldl (fun tmps (t, a) => tmps.setIfInBounds t a) a.tmps = a.tmps.setIfInBounds p (val x) := by simp
  refine round l r (X ++ js) pre x s hi hpre _ (roundPost Tryz.prog l (fun e W' => (e = .returned (.bool true) ∧ Mem w0 W' (C (pre ++ [x]) :: js)) ∨ (e = .returned (.bool false) ∧ Mem w0 W' (Cx (pre ++ [x]) :: js)))) (fun _ _ _ _ h => h.elim) (fun is' e' hG w' a' M' F' => ?_) (fun s' e' hi' w' a' M' F' => ?_) (fun s' e' hi' w' a' M' F' => ?_) (fun id s' e' hi' w' a' M' F' => ?_) W _ M1 (by
    have := fit_round (l := l) (v := val x) F hN
    rw [← hfold] at this
    exact this) (fun _ => ⟨hca, fun _ _ h => h⟩)
  · obtain ⟨h1, h2⟩ := mem_rec { r with state := .busy } M' (n := 0) rfl
    exact ⟨_, run_beginRound h1 rfl, hG _ _ h2 F' (fun _ => ⟨hcb, fun _ _ h => h⟩)⟩
  · obtain ⟨h1, h2⟩ := mem_rec { r with state := .ready, pending := none } M' (n := 0) rfl
    refine ⟨_, _, run_endRound none h1, .inl ⟨rfl, ?_⟩⟩
    have e1 : ({ r with state := .ready, pending := none } : Loop) = { r with state := .ready } := by rw [hr]
    have h3 : Mem w0 (w'.putObj l (.loop { r with state := .ready, pending := none })) ((recI l { r with state := .ready } :: (X ++ updL A (ti s'))) ++ js) := by
      have := back _ _ _ h2
      rw [e1] at this ⊢
      exact this
    exact inC _ s' _ hi' h3
  · obtain ⟨h1, h2⟩ := mem_rec { r with state := .done, pending := some .ret } M' (n := 0) rfl
    exact ⟨_, _, run_endRound (some .ret) h1, .inr ⟨rfl, inX _ .ret s' _ ⟨trivial, hi'⟩ (back _ _ _ h2)⟩⟩
  · obtain ⟨h1, h2⟩ := mem_rec { r with state := .done, pending := some (.exit id) } M' (n := 0) rfl
    exact ⟨_, _, run_endRound (some (.exit id)) h1, .inr ⟨rfl, inX _ (.exit id) s' _ ⟨trivial, hi'⟩ (back _ _ _ h2)⟩⟩
theorem gc_rangeF (nA : Nat) {X : List Itm} {Ds : List Nat} {nf : Nat} (hB : X.drop nA = B) (hg : evo e g = some (.func (.func gf) #[] lb.toArray)) (hfn : Tryz.prog.funcs[gf]? = some fn) (hb : fn.body.isNone = false) (hn : (fn.name == "runtime.NumGoroutine") = false) (hN : Nat.blt p nf = true)
    (hseq : SeqC w0 B gf lb val T dec L) (ti : σ → List (Nat × Itm)) (inv : List α → σ → Prop) (invX : Code → List α → σ → Prop) (s0 : σ) (h0 : inv [] s0) (hA : updL (X.take nA) (ti s0) = X.take nA) (hca : calmC assign = true) (hcb : calmC body = true)
    (round : RoundC w0 nf assign body p e val T dec L (X.take nA) ti inv invX)
    (done : ∀ (D : Nat) xs s, xs.map dec = L → inv xs s → GK w0 (dfsI (D :: Ds) :: (updL (X.take nA) (ti s) ++ B)) ⟨nf, D :: Ds, none⟩ (Q .normal) e)
    (stopR : ∀ (D : Nat) pre s, pre.map dec <+: L → invX .ret pre s → GK w0 (dfsI (D :: Ds) :: (updL (X.take nA) (ti s) ++ B)) ⟨nf, D :: Ds, none⟩ (Q .ret) e)
    (stopE : ∀ (D : Nat) id pre s, pre.map dec <+: L → invX (.exit id) pre s → GK w0 (dfsI (D :: Ds) :: (updL (X.take nA) (ti s) ++ B)) ⟨nf, D :: Ds, none⟩ (Q (.exit id)) e) :
    GC w0 (dfsI Ds :: X) ⟨nf, Ds, none⟩ (.rangeFunc g #[p] assign body) Q e := by
  intro w a M F R
  refine wpIn_rangeFunc ?_
  intro fnr _
  rw [show (At (⟨nf, Ds, none⟩ : Frm).rd).round = none from rfl]
  obtain ⟨r, hr⟩ : ∃ r : Loop, r = { state := .ready, pending := none, fn := fnr, tmps := a.tmps, params := #[p], assign, body, defers := w.heap.size } := ⟨_, rfl⟩
  obtain ⟨W1, hW1⟩ : ∃ W1, (w.alloc (.deferred (some []))).alloc (.loop r) = W1 := ⟨_, rfl⟩
  have hrd : ({ r with state := .ready } : Loop) = r := by rw [hr]
  have M0 := mem_dfs_new M (n := 0) rfl
  have M1 : Mem w0 W1 ((recI (w.heap.size + 1) { r with state := .ready } :: ([dfsI (w.heap.size :: Ds)] ++ updL (X.take nA) (ti s0))) ++ B) := by
    have h1 := mem_rec_new r M0
    rw [hW1, World.size_alloc] at h1
    rw [hrd, hA]
    refine mem_perm ?_ h1
    show ((dfsI (w.heap.size :: Ds) :: X) ++ [recI (w.heap.size + 1) r]).Perm _
    refine (List.perm_append_singleton _ _).trans (List.Perm.cons _ ?_)
    show (dfsI (w.heap.size :: Ds) :: X).Perm (([dfsI (w.heap.size :: Ds)] ++ X.take nA) ++ B)
    rw [← hB, List.append_assoc, List.take_append_drop]
    exact List.Perm.refl _
  have hY := yieldC_of (l := w.heap.size + 1) (r := r) (X := [dfsI (w.heap.size :: Ds)]) (fnr := fnr) (N := ⟨nf, Ds, none⟩) F hN hca hcb (by rw [hr]) round
  refine ⟨w.heap.size + 1, [markD w.heap.size], W1, { target := .fn (.func gf) lb.toArray, args := #[.func (.yield (w.heap.size + 1)) #[] #[]] }, W1, gf, #[.func (.yield (w.heap.size + 1)) #[] #[]] ++ lb.toArray, W1, ?_, ?_, fun _ _ => trivial, ?_, (fun h => by cases h), ?_⟩
  · rw [← hW1, hr]; exact run_enterLoop_outer _ _ _ _ _
  · simp only [resolve, fit_eval F hg]
    simp [go_sem, Act.eval]
  · simp [invoke, go_sem, run_invokeF hfn hb hn]
  · have hc := hseq _ _ _ hY W1 (mem_cons_in s0 h0 M1)
    rw [show (Value.func (.yield (w.heap.size + 1)) #[] #[] :: lb).toArray = #[.func (.yield (w.heap.size + 1)) #[] #[]] ++ lb.toArray by simp] at hc
    refine calls_in (hc.mono ?_)
    have F' : Fit ⟨nf, w.heap.size :: Ds, none⟩ e { a with defers := [markD w.heap.size] ++ a.defers } := ⟨F.size, by simp [F.defers], F.at_⟩
    have take : ∀ (r' : Loop) (s : σ) (W : World), Mem w0 W ((recI (w.heap.size + 1) r' :: ([dfsI (w.heap.size :: Ds)] ++ updL (X.take nA) (ti s))) ++ B) → W.heap[w.heap.size + 1]? = some (.loop r') ∧
        Mem w0 (W.putObj (w.heap.size + 1) (.loop { r' with state := .exhausted })) (dfsI (w.heap.size :: Ds) :: (updL (X.take nA) (ti s) ++ B)) := fun r' s W M' => by
      obtain ⟨h1, h2⟩ := mem_rec { r' with state := .exhausted } M' (n := 0) rfl
      exact ⟨h1, mem_erase 0 h2⟩
    rintro e' W2 ⟨⟨v, rfl⟩, (⟨xs, hL, M2⟩ | ⟨pre, hL, M2⟩)⟩
    · obtain ⟨s, hi, M3⟩ := mem_cons_out M2
      obtain ⟨h1, h2⟩ := take _ s W2 M3
      refine ⟨none, _, ?_, done _ xs s hL hi _ _ h2 F'⟩
      have := run_endLoop (P := Tryz.prog) h1 (by simp)
      rw [this]
      rw [show ({ r with state := .ready } : Loop).pending = none by rw [hr]]
    · obtain ⟨⟨c, s⟩, ⟨hj, hi⟩, M3⟩ := mem_cons_out M2
      obtain ⟨h1, h2⟩ := take _ s W2 M3
      refine ⟨some c, _, run_endLoop (P := Tryz.prog) h1 (by simp), ?_⟩
      cases c <;> first | exact hj.elim | skip
      · exact wpIn_exit (stopE _ _ pre s hL hi _ _ h2 F')
      · exact wpIn_ret (stopR _ pre s hL hi _ _ h2 F')
end
theorem leaves_marks {fn : Func} {tmps : Array Value} {R : Ending → World → Prop} {n : Nat} : ∀ (Ds : List Nat) {is : List Itm} (w : World), is[n]? = some (dfsI Ds) → Mem w0 w is →
    (∀ w', Mem w0 w' (is.set n nilI) → LeavesIn (At none) 0 Tryz.prog fn tmps R [] .returning w') → LeavesInM (At none) 0 Tryz.prog fn tmps R (Ds.map markD) .returning w
  | [], is, w, hi, M, h => by
    refine h w ?_
    obtain ⟨S, _, _, hset⟩ := mem_set M hi
    exact hset w nilI (FrS.refl _ _) trivial
  | D :: Ds, is, w, hi, M, h => by
    obtain ⟨S, _, hp, hset⟩ := mem_set M hi
    obtain ⟨h1, h2⟩ := hp.1 D (List.mem_cons_self ..)
    have hl := (Array.getElem?_eq_some_iff.1 h1).1
    have hnd := List.nodup_cons.1 hp.2
    have M' : Mem w0 (w.putObj D (.deferred none)) (is.set n (dfsI Ds)) := hset _ _ (frS_putObj h2) ⟨fun E hE => by
      obtain ⟨h3, h4⟩ := hp.1 E (List.mem_cons_of_mem _ hE)
      have hne : E ≠ D := by rintro rfl; exact hnd.1 hE
      exact ⟨(World.putObj_heap_other hne).trans h3, .inl h4⟩, hnd.2⟩
    have hn : n < is.length := (List.getElem?_eq_some_iff.1 hi).1
    have ih := leaves_marks (fn := fn) (tmps := tmps) (R := R) (n := n) Ds (w.putObj D (.deferred none)) (is := is.set n (dfsI Ds)) (by simp [hn]) M' fun w' M2 => h w' (by simpa using M2)
    exact ⟨by simp, .inl ⟨D, _, rfl, run_takeDeferred h1, ih⟩⟩
def postM (fn : Func) (R : Ending → World → Prop) : Exit → Act → World → Prop
  | .panic _, _, _ => False
  | e, a, w => bodyPostM (At none) 0 Tryz.prog fn R e a w
theorem postM_sub {fn : Func} {R : Ending → World → Prop} {e : Exit} {a : Act} {w : World} (h : postM fn R e a w) : bodyPostM (At none) 0 Tryz.prog fn R e a w := by
  cases e <;> first | exact h | exact h.elim
theorem gk_marks {fn : Func} {R : Ending → World → Prop} {n : Nat} {Ds : List Nat} (hi : is[n]? = some (dfsI Ds)) (hds : N.ds = Ds) (h : GK w0 (is.set n nilI) (Frm.of N.n) (bodyPost Tryz.prog fn R .ret) e) : GK w0 is N (postM fn R .ret) e := by
  intro w a M F
  show LeavesInM _ _ _ _ _ _ a.defers _ w
  rw [F.defers, hds]
  exact leaves_marks Ds w hi M fun w' M' => (h w' { a with defers := [] } M' ⟨F.size, rfl, F.at_⟩).2
theorem gk_marksn {fn : Func} {R : Ending → World → Prop} {n : Nat} {Ds : List Nat} (hi : is[n]? = some (dfsI Ds)) (hds : N.ds = Ds) (h : GK w0 (is.set n nilI) (Frm.of N.n) (bodyPost Tryz.prog fn R .normal) e) : GK w0 is N (postM fn R .normal) e := gk_marks hi hds h
theorem gc_enterK {f : FuncId} {c : Code} {args : List Value} {w : World} {R : Ending → World → Prop} {nf : Nat} {fn : Func} (M : Mem w0 w is) (hf : Tryz.prog.funcs[f]? = some fn) (hb : fn.body = some c) (hN : fn.ntmps = nf) (ha : args.length ≤ nf)
    (he : ∀ t v, look e t = some v → (args ++ List.replicate (nf - args.length) undef)[t]? = some v) (h : GC w0 (dfsI [] :: is) ⟨nf, [], none⟩ c (postM fn R) e) : Calls Tryz.prog f args.toArray w R := by
  refine calls_out (n := 0) (callsIn_of_wp_marks hf hb trivial (wpIn_mono (Q := postM fn R) ?_ fun _ _ _ => postM_sub) rfl)
  have M' : Mem w0 w (dfsI [] :: is) := ⟨M.1, fun _ => False, fun k => w0.heap.size ≤ k, fun _ h => h.elim, fun _ h => h, fun _ h => h.elim, ⟨(fun D hD => by cases hD), List.nodup_nil⟩, M.2⟩
  refine h w _ M' ⟨?_, rfl, fun t v hv => ?_⟩ (fun h => absurd rfl h)
  · rw [hN]; simp; omega
  · have := he t v hv
    rw [hN]
    have e1 : (args.toArray ++ Array.replicate (nf - args.toArray.size) undef) = (args ++ List.replicate (nf - args.length) undef).toArray := by simp
    show (args.toArray ++ Array.replicate (nf - args.toArray.size) undef)[t]? = some v
    rw [e1]; simpa using this
theorem run_yieldV {o : Oper} {x y : Operand} {ts : Array TypeId} {l : Nat} {v : Value} {a : Act} {w w' : World} {r : Next} (hop : o.op = .call { callee := .value x, args := #[y], argTypes := ts }) (hx : evo e x = some (.func (.yield l) #[] #[])) (hy : evo e y = some v) (F : Fit N e a)
    (hr : (Instr.yield l #[v]).run Tryz.prog w = .ok r w') : (execOp a.eval o).run Tryz.prog w = .ok r w' := by
  simp [execOp, hop, resolve, fit_eval F hx, fit_eval F hy, Deferred.ofValue, invoke, hr]
theorem g_yield {α β : Type} {ops : Array Oper} {o : Oper} {rest : List Oper} {d l : Nat} {x y : Operand} {ts : Array TypeId} {C Cx : List α → Itm} {val : α → Value} {T : α → List Itm} {dec : α → β} {L : List β} {pre : List α} (z : α) {js : List Itm}
    (hw : Want ops e o true) (hd : o.dst = some d) (hN : Nat.blt d N = true) (hop : o.op = .call { callee := .value x, args := #[y], argTypes := ts }) (hx : evo e x = some (.func (.yield l) #[] #[])) (hy : evo e y = some (val z)) (Y : YieldC w0 C Cx l val T dec L)
    (hpre : ((pre ++ [z]).map dec) <+: L) (his : is.Perm (C pre :: (T z ++ js))) (h1 : G w0 (C (pre ++ [z]) :: js) N ops Q rest ((d, .bool true) :: e)) (h2 : G w0 (Cx (pre ++ [z]) :: js) N ops Q rest ((d, .bool false) :: e)) : G w0 is N ops Q (o :: rest) e := by
  intro w a M F R
  unfold wpListIn
  rw [if_pos (want_eq hw F)]
  refine ⟨fun _ _ => trivial, ?_⟩
  obtain ⟨fnr, tmps, assign, body, hr, hR⟩ := Y w js pre z hpre (mem_perm his M)
  rw [show (At N.rd).round = N.rd from rfl, calm_sem R.o, run_yieldV hop hx hy F hr, Oper.uponIn_round]
  refine ⟨(fun h => by cases h), ?_⟩
  refine RoundIn.mono (F := At N.rd) hR fun e' W' h => ?_
  rcases h with ⟨rfl, M'⟩ | ⟨rfl, M'⟩
  · show wpListIn _ _ _ _ _ _ (Act.put a o.dst _) W'
    rw [hd]
    exact h1 _ _ M' (fit_put F hN) R.r
  · show wpListIn _ _ _ _ _ _ (Act.put a o.dst _) W'
    rw [hd]
    exact h2 _ _ M' (fit_put F hN) R.r
theorem gc_seqD {nf : Nat} {Ds : List Nat} {rd : Option Nat} {x y : Code} (h : ∀ K : Act → World → Prop, (∀ {Ds : List Nat} (is : List Itm) (e : Env), GC w0 is ⟨nf, Ds, rd⟩ y Q e → GK w0 is ⟨nf, Ds, rd⟩ K e) → GC w0 is ⟨nf, Ds, rd⟩ x (Exit.then K Q) e) : GC w0 is ⟨nf, Ds, rd⟩ (.seq x y) Q e :=
  fun w a M F R => wpIn_seq (h _ (fun _ _ hy w a M F => hy w a M F (rdy_r (N := ⟨nf, Ds, rd⟩) R)) w a M F (rdy_l R))
theorem gc_loopD {nf : Nat} {Ds0 : List Nat} {c : Code} {σ : Type} (C : Env) (E : σ → Env) (ti : σ → List (Nat × Itm)) (D : σ → List Nat) (inv : σ → Prop) (μ : σ → Nat) (s0 : σ)
    (hC : Sub (E s0 ++ C) e) (ht : updL is (ti s0) = is) (hD : D s0 = Ds0) (h0 : inv s0)
    (round : ∀ s, inv s → ∀ K : Act → World → Prop, (∀ s', inv s' → μ s' < μ s → GK w0 (updL is (ti s')) ⟨nf, D s', none⟩ K (E s' ++ C)) → GC w0 (updL is (ti s)) ⟨nf, D s, none⟩ c (Exit.then K Q) (E s ++ C)) :
    GC w0 is ⟨nf, Ds0, none⟩ (.loop c) Q e := by
  intro w a M F R
  subst hD
  refine wpIn_loop (fun a w => ∃ s, inv s ∧ Fit ⟨nf, D s, none⟩ (E s ++ C) a ∧ Mem w0 w (updL is (ti s)))
    (fun a w => leastN fun n => ∃ s, inv s ∧ Fit ⟨nf, D s, none⟩ (E s ++ C) a ∧ Mem w0 w (updL is (ti s)) ∧ μ s = n) ⟨s0, h0, fit_sub hC F, by rw [ht]; exact M⟩ ?_
  rintro a w ⟨s1, i1, ha, hM⟩
  obtain ⟨⟨s, hi, ha2, hM2, hmu⟩, _⟩ := leastN_spec (p := fun n => ∃ s, inv s ∧ Fit ⟨nf, D s, none⟩ (E s ++ C) a ∧ Mem w0 w (updL is (ti s)) ∧ μ s = n) ⟨s1, i1, ha, hM, rfl⟩
  have hr := round s hi (fun a' w' => ∃ s', inv s' ∧ μ s' < μ s ∧ Fit ⟨nf, D s', none⟩ (E s' ++ C) a' ∧ Mem w0 w' (updL is (ti s'))) (fun s' h1 h2 w' a' M' F' => ⟨s', h1, h2, F', M'⟩) w a hM2 ha2 (fun h => absurd rfl h)
  refine Code.wpIn_mono (fun e a' w' q => ?_) hr
  cases e with
  | normal =>
    obtain ⟨s', h1, h2, h3, h4⟩ := q
    refine ⟨⟨s', h1, h3, h4⟩, ?_⟩
    have := (leastN_spec (p := fun n => ∃ s, inv s ∧ Fit ⟨nf, D s, none⟩ (E s ++ C) a' ∧ Mem w0 w' (updL is (ti s)) ∧ μ s = n) ⟨s', h1, h3, h4, rfl⟩).2
    show leastN _ < leastN _
    omega
  | exit _ => exact q
  | goto _ => exact q
  | ret => exact q
  | panic _ => exact q
  | outgrown => exact q
end
end Go.Proofs.YtpcabkdkdnchaaaGreat
set_option linter.unusedSimpArgs false
set_option linter.unusedVariables false
set_option linter.unusedSectionVars false
namespace Go.Proofs.YtpcabkdkdnchaaaGreat
open Go.RowKit
section
variable {w0 : World} {is : List Itm} {N : Frm} {e : Env} {v : Value}
end
end Go.Proofs.YtpcabkdkdnchaaaGreat
set_option linter.unusedSimpArgs false
set_option linter.unusedVariables false
set_option linter.unusedSectionVars false
namespace Go.Proofs.YtpcabkdkdnchaaaGreat
open Go.RowKit
theorem mem_block {w0 w : World} {is : List Itm} (k n : Nat) (M : Mem w0 w is) : Mem w0 w ((is.drop k).take n ++ (is.take k ++ (is.drop k).drop n)) := by
  refine mem_perm ?_ M
  have h : (is.take k ++ ((is.drop k).take n ++ (is.drop k).drop n)).Perm ((is.drop k).take n ++ (is.take k ++ (is.drop k).drop n)) := by
    rw [← List.append_assoc, ← List.append_assoc]; exact List.perm_append_comm.append_right _
  rwa [List.take_append_drop, List.take_append_drop] at h
def fct0 : Fct := ⟨cat0, cat0, [], []⟩
theorem ownF_zero (w : World) (S : Nat → Prop) : OwnF (.agg #[.int .i64 0, .slice none 0 0, .slice none 0 0, .slice none 0 0, .slice none 0 0, .int .i64 0, .slice none 0 0, .slice none 0 0, .slice none 0 0, .slice none 0 0, .slice none 0 0, .slice none 0 0]) fct0 w S := by
  have n1 : Own1 (.slice none 0 0) [] w (fun _ => False) := own1_nil _ _
  have n2 : Own2U (.slice none 0 0) [] [] w (fun _ => False) := ⟨rfl, by simp, World.ownsRow_nil w 0 _ 1, fun i hi => by simp at hi, fun i j _ hj => by simp at hj, fun q hq => by simp [Value.ownBlock] at hq⟩
  have hd1 : ∀ k : Nat, (fun _ => False) k → S k := fun k h => h.elim
  refine ⟨_, _, _, _, _, _, _, _, _, _, [], [], rfl, ?_⟩
  have st : ∀ (i : Itm) (is : List Itm), i.p w (fun _ => False) → Star is w S → Star (i :: is) w S := fun i is h h2 => ⟨fun _ => False, S, fun k h => h.elim, fun k h => h, fun k h => h.elim, h, h2⟩
  exact st _ _ n1 (st _ _ n1 (st _ _ n1 (st _ _ n2 (st _ _ n1 (st _ _ n1 (st _ _ n1 (st _ _ n2 (st _ _ n1 (st _ _ n1 trivial)))))))))
theorem star_ownF {w : World} {S : Nat → Prop} {v : Value} {F : Fct} (h : OwnF v F w S) : ∃ (x1 x2 x3 x4 x5 x6 x7 x8 x9 x10 : Option Addr) (k1 k2 k3 k4 k5 k6 k7 k8 k9 k10 : Nat) (us ut : List Value), v = .agg #[.int .i64 F.S.ob, .slice x1 F.S.s.length k1, .slice x2 F.S.t.length k2, .slice x3 F.S.e.length k3, .slice x4 F.S.m.length k4, .int .i64 F.T.ob, .slice x5 F.T.s.length k5, .slice x6 F.T.t.length k6, .slice x7 F.T.e.length k7, .slice x8 F.T.m.length k8, .slice x9 F.o.length k9, .slice x10 F.a.length k10] ∧ Star [own1I (.slice x1 F.S.s.length k1) F.S.s, own1I (.slice x2 F.S.t.length k2) F.S.t, own1I (.slice x3 F.S.e.length k3) F.S.e, own2U (.slice x4 F.S.m.length k4) us F.S.m, own1I (.slice x5 F.T.s.length k5) F.T.s, own1I (.slice x6 F.T.t.length k6) F.T.t, own1I (.slice x7 F.T.e.length k7) F.T.e, own2U (.slice x8 F.T.m.length k8) ut F.T.m, own1I (.slice x9 F.o.length k9) F.o, own1I (.slice x10 F.a.length k10) F.a] w S := by
  obtain ⟨s1, s2, s3, s4, t1, t2, t3, t4, vo, va, us, ut, rfl, h⟩ := h
  obtain ⟨x1, k1, rfl⟩ := rd_form (starF_1 (n := 0) h rfl)
  obtain ⟨x2, k2, rfl⟩ := rd_form (starF_1 (n := 1) h rfl)
  obtain ⟨x3, k3, rfl⟩ := rd_form (starF_1 (n := 2) h rfl)
  obtain ⟨x4, k4, rfl⟩ := rd2_form (starF_2 (n := 3) h rfl)
  obtain ⟨x5, k5, rfl⟩ := rd_form (starF_1 (n := 4) h rfl)
  obtain ⟨x6, k6, rfl⟩ := rd_form (starF_1 (n := 5) h rfl)
  obtain ⟨x7, k7, rfl⟩ := rd_form (starF_1 (n := 6) h rfl)
  obtain ⟨x8, k8, rfl⟩ := rd2_form (starF_2 (n := 7) h rfl)
  obtain ⟨x9, k9, rfl⟩ := rd_form (starF_1 (n := 8) h rfl)
  obtain ⟨x10, k10, rfl⟩ := rd_form (starF_1 (n := 9) h rfl)
  exact ⟨x1, x2, x3, x4, x5, x6, x7, x8, x9, x10, k1, k2, k3, k4, k5, k6, k7, k8, k9, k10, us, ut, rfl, h⟩
def RetFI (W : World) (F : Fct) (n : Int) (e : Ending) (w' : World) : Prop := ∃ v, e = .returned (.tuple #[v, .int .i64 n]) ∧ OwnF v F w' (fun k => W.heap.size ≤ k) ∧ Below W.heap.size W w'
def ZeroF (W : World) (n : Int) (e : Ending) (w' : World) : Prop := e = .returned (.tuple #[.agg #[.int .i64 0, .slice none 0 0, .slice none 0 0, .slice none 0 0, .slice none 0 0, .int .i64 0, .slice none 0 0, .slice none 0 0, .slice none 0 0, .slice none 0 0, .slice none 0 0, .slice none 0 0], .int .i64 n]) ∧ Below W.heap.size W w'
theorem ownF_mem {W w' : World} {F : Fct} {s1 s2 s3 s4 t1 t2 t3 t4 vo va : Value} {us ut : List Value} {is : List Itm} (M : Mem W w' (own1I s1 F.S.s :: own1I s2 F.S.t :: own1I s3 F.S.e :: own2U s4 us F.S.m :: own1I t1 F.T.s :: own1I t2 F.T.t :: own1I t3 F.T.e :: own2U t4 ut F.T.m :: own1I vo F.o :: own1I va F.a :: is)) : OwnF (.agg #[.int .i64 F.S.ob, s1, s2, s3, s4, .int .i64 F.T.ob, t1, t2, t3, t4, vo, va]) F w' (fun k => W.heap.size ≤ k) :=
  ⟨_, _, _, _, _, _, _, _, _, _, _, _, rfl, (mem_take 10 M).2⟩
theorem retFI_star {W w' : World} {F : Fct} {n : Int} {s1 s2 s3 s4 t1 t2 t3 t4 vo va : Value} {us ut : List Value} {is : List Itm} (M : Mem W w' (own1I s1 F.S.s :: own1I s2 F.S.t :: own1I s3 F.S.e :: own2U s4 us F.S.m :: own1I t1 F.T.s :: own1I t2 F.T.t :: own1I t3 F.T.e :: own2U t4 ut F.T.m :: own1I vo F.o :: own1I va F.a :: is)) : RetFI W F n (.returned (.tuple #[.agg #[.int .i64 F.S.ob, s1, s2, s3, s4, .int .i64 F.T.ob, t1, t2, t3, t4, vo, va], .int .i64 n])) w' :=
  ⟨_, rfl, ownF_mem M, M.1⟩
theorem retFn_star {W w' : World} {F : Fct} {s1 s2 s3 s4 t1 t2 t3 t4 vo va : Value} {us ut : List Value} {is : List Itm} (M : Mem W w' (own1I s1 F.S.s :: own1I s2 F.S.t :: own1I s3 F.S.e :: own2U s4 us F.S.m :: own1I t1 F.T.s :: own1I t2 F.T.t :: own1I t3 F.T.e :: own2U t4 ut F.T.m :: own1I vo F.o :: own1I va F.a :: is)) : RetFn W F (.returned (.agg #[.int .i64 F.S.ob, s1, s2, s3, s4, .int .i64 F.T.ob, t1, t2, t3, t4, vo, va])) w' :=
  ⟨_, rfl, ownF_mem M, M.1⟩
theorem retFI_zero {W w' : World} {n : Int} (hb : Below W.heap.size W w') : RetFI W fct0 n (.returned (.tuple #[.agg #[.int .i64 0, .slice none 0 0, .slice none 0 0, .slice none 0 0, .slice none 0 0, .int .i64 0, .slice none 0 0, .slice none 0 0, .slice none 0 0, .slice none 0 0, .slice none 0 0, .slice none 0 0], .int .i64 n])) w' := ⟨_, rfl, ownF_zero _ _, hb⟩
section
variable {w0 : World} {is : List Itm} {ops : Array Oper} {Q : Exit → Act → World → Prop} {o : Oper} {rest : List Oper} {N : Frm} {n m : Nat} {e : Env} {v u : Value} {d : Nat} {K : Act → World → Prop} {f : FuncId} {fn : Func} {ags : Array Operand} {ts : Array TypeId} {vs0 : List Value}
theorem go_callFn {F : Fct} (hd : o.dst = some d) (hN : Nat.blt d N = true) (hop : o.op = .call { callee := .value (.func f), args := ags, argTypes := ts }) (hfn : Tryz.prog.funcs[f]? = some fn) (hb : fn.body.isNone = false) (hn : (fn.name == "runtime.NumGoroutine") = false)
    (hargs : evoL e ags.toList = some vs0) (hc : ∀ w, Mem w0 w is → Calls Tryz.prog f vs0.toArray w (RetFn w F))
    (hk : ∀ x1 k1 x2 k2 x3 k3 x4 k4 x5 k5 x6 k6 x7 k7 x8 k8 x9 k9 x10 k10 us ut, GK w0 (is ++ [own1I (.slice x1 F.S.s.length k1) F.S.s, own1I (.slice x2 F.S.t.length k2) F.S.t, own1I (.slice x3 F.S.e.length k3) F.S.e, own2U (.slice x4 F.S.m.length k4) us F.S.m, own1I (.slice x5 F.T.s.length k5) F.T.s, own1I (.slice x6 F.T.t.length k6) F.T.t, own1I (.slice x7 F.T.e.length k7) F.T.e, own2U (.slice x8 F.T.m.length k8) ut F.T.m, own1I (.slice x9 F.o.length k9) F.o, own1I (.slice x10 F.a.length k10) F.a]) N K ((d, .agg #[.int .i64 F.S.ob, .slice x1 F.S.s.length k1, .slice x2 F.S.t.length k2, .slice x3 F.S.e.length k3, .slice x4 F.S.m.length k4, .int .i64 F.T.ob, .slice x5 F.T.s.length k5, .slice x6 F.T.t.length k6, .slice x7 F.T.e.length k7, .slice x8 F.T.m.length k8, .slice x9 F.o.length k9, .slice x10 F.a.length k10]) :: e)) : GO w0 is N o e Q K := by
  intro w a M _F
  refine go_call hd hN _F hop hfn hb hn hargs (hc w M) fun e' w' hR => ?_
  obtain ⟨v, rfl, hs, hbl⟩ := hR
  obtain ⟨x1, x2, x3, x4, x5, x6, x7, x8, x9, x10, k1, k2, k3, k4, k5, k6, k7, k8, k9, k10, us, ut, rfl, hst⟩ := star_ownF hs
  exact ⟨_, rfl, fun a F => hk x1 k1 x2 k2 x3 k3 x4 k4 x5 k5 x6 k6 x7 k7 x8 k8 x9 k9 x10 k10 us ut w' a (mem_news M hbl hst) F⟩
theorem go_callFI {F : Fct} {n : Int} (hd : o.dst = some d) (hN : Nat.blt d N = true) (hop : o.op = .call { callee := .value (.func f), args := ags, argTypes := ts }) (hfn : Tryz.prog.funcs[f]? = some fn) (hb : fn.body.isNone = false) (hn : (fn.name == "runtime.NumGoroutine") = false)
    (hargs : evoL e ags.toList = some vs0) (hc : ∀ w, Mem w0 w is → Calls Tryz.prog f vs0.toArray w (RetFI w F n))
    (hk : ∀ x1 k1 x2 k2 x3 k3 x4 k4 x5 k5 x6 k6 x7 k7 x8 k8 x9 k9 x10 k10 us ut, GK w0 (is ++ [own1I (.slice x1 F.S.s.length k1) F.S.s, own1I (.slice x2 F.S.t.length k2) F.S.t, own1I (.slice x3 F.S.e.length k3) F.S.e, own2U (.slice x4 F.S.m.length k4) us F.S.m, own1I (.slice x5 F.T.s.length k5) F.T.s, own1I (.slice x6 F.T.t.length k6) F.T.t, own1I (.slice x7 F.T.e.length k7) F.T.e, own2U (.slice x8 F.T.m.length k8) ut F.T.m, own1I (.slice x9 F.o.length k9) F.o, own1I (.slice x10 F.a.length k10) F.a]) N K ((d, .tuple #[.agg #[.int .i64 F.S.ob, .slice x1 F.S.s.length k1, .slice x2 F.S.t.length k2, .slice x3 F.S.e.length k3, .slice x4 F.S.m.length k4, .int .i64 F.T.ob, .slice x5 F.T.s.length k5, .slice x6 F.T.t.length k6, .slice x7 F.T.e.length k7, .slice x8 F.T.m.length k8, .slice x9 F.o.length k9, .slice x10 F.a.length k10], .int .i64 n]) :: e)) : GO w0 is N o e Q K := by
  intro w a M _F
  refine go_call hd hN _F hop hfn hb hn hargs (hc w M) fun e' w' hR => ?_
  obtain ⟨v, rfl, hs, hbl⟩ := hR
  obtain ⟨x1, x2, x3, x4, x5, x6, x7, x8, x9, x10, k1, k2, k3, k4, k5, k6, k7, k8, k9, k10, us, ut, rfl, hst⟩ := star_ownF hs
  exact ⟨_, rfl, fun a F => hk x1 k1 x2 k2 x3 k3 x4 k4 x5 k5 x6 k6 x7 k7 x8 k8 x9 k9 x10 k10 us ut w' a (mem_news M hbl hst) F⟩
end
theorem retFI_of0 {W w' : World} {n : Int} {e : Ending} (h : ZeroF W n e w') : RetFI W fct0 n e w' := by rw [h.1]; exact retFI_zero h.2
theorem bt_Functor {ob ob' : Int} {a1 a2 a3 a4 a5 a6 a7 a8 a9 a10 : Option Addr} {n1 n2 n3 n4 n5 n6 n7 n8 n9 n10 k1 k2 k3 k4 k5 k6 k7 k8 k9 k10 : Nat} : Tryz.prog.built 31 [(0, .agg #[.int .i64 ob, .slice a1 n1 k1, .slice a2 n2 k2, .slice a3 n3 k3, .slice a4 n4 k4]), (1, .agg #[.int .i64 ob', .slice a5 n5 k5, .slice a6 n6 k6, .slice a7 n7 k7, .slice a8 n8 k8]), (2, .slice a9 n9 k9), (3, .slice a10 n10 k10)] = some #[.int .i64 ob, .slice a1 n1 k1, .slice a2 n2 k2, .slice a3 n3 k3, .slice a4 n4 k4, .int .i64 ob', .slice a5 n5 k5, .slice a6 n6 k6, .slice a7 n7 k7, .slice a8 n8 k8, .slice a9 n9 k9, .slice a10 n10 k10] := by kernel_rfl
theorem bt0_Functor : Tryz.prog.built 31 [] = some #[.int .i64 0, .slice none 0 0, .slice none 0 0, .slice none 0 0, .slice none 0 0, .int .i64 0, .slice none 0 0, .slice none 0 0, .slice none 0 0, .slice none 0 0, .slice none 0 0, .slice none 0 0] := by kernel_rfl
end Go.Proofs.YtpcabkdkdnchaaaGreat
set_option linter.unusedSimpArgs false
set_option linter.unusedVariables false
set_option linter.unusedSectionVars false
namespace Go.Proofs.YtpcabkdkdnchaaaGreat
open Go.RowKit
def mzF (F : Fct) : Nat := mzC F.S + mzC F.T + F.o.length + F.a.length
theorem mzF_le (F : Fct) : mzF F ≤ szFn F := by have h1 := mz_le F.S; have h2 := mz_le F.T; unfold mzF szFn; omega
theorem agg12 {a b c d e f g h i j k l a' b' c' d' e' f' g' h' i' j' k' l' : Value} (q : (Value.agg #[a, b, c, d, e, f, g, h, i, j, k, l]) = .agg #[a', b', c', d', e', f', g', h', i', j', k', l']) : b = b' ∧ c = c' ∧ d = d' ∧ e = e' ∧ g = g' ∧ h = h' ∧ i = i' ∧ j = j' ∧ k = k' ∧ l = l' := by
  simp only [Value.agg.injEq] at q
  have hl := congrArg Array.toList q
  simp only [List.cons.injEq, and_true] at hl
  exact ⟨hl.2.1, hl.2.2.1, hl.2.2.2.1, hl.2.2.2.2.1, hl.2.2.2.2.2.2.1, hl.2.2.2.2.2.2.2.1, hl.2.2.2.2.2.2.2.2.1, hl.2.2.2.2.2.2.2.2.2.1, hl.2.2.2.2.2.2.2.2.2.2.1, hl.2.2.2.2.2.2.2.2.2.2.2⟩
section
variable {w0 : World} {is : List Itm} {ops : Array Oper} {Q : Exit → Act → World → Prop} {o : Oper} {rest : List Oper} {N : Frm} {n m : Nat} {e : Env} {v : Value} {d : Nat} {K : Act → World → Prop} {f : FuncId} {fn : Func} {ags : Array Operand} {ts : Array TypeId} {vs : List Value}
end
end Go.Proofs.YtpcabkdkdnchaaaGreat
set_option linter.unusedSimpArgs false
set_option linter.unusedVariables false
set_option linter.unusedSectionVars false
namespace Go.Proofs.YtpcabkdkdnchaaaGreat
open Go.RowKit
noncomputable def lab_co : Lab0 Int where
  z := 1
  lc l := [Value.int .i64 l]
  tE := 67
  tS := 59
  bts := 24
  zc := .agg #[.int .i64 0, .int .i64 0, .int .i64 0]
  td := match Tryz.prog.underlying 67 with | some t => t | none => .bool
  len _ := rfl
  one _ := rfl
  inf := by kernel_rfl
  zl := rfl
  cap := 4000000000000
  hc1 := by decide
  hc2 := by decide
  hcb := by decide
  hz := by decide
  ud := by kernel_rfl
  row := by kernel_rfl
  ul := by kernel_rfl
  el := by kernel_rfl
noncomputable def lab_ca : Lab0 (Int × Int) where
  z := 2
  lc l := [Value.int .i64 l.1, Value.int .i64 l.2]
  tE := 74
  tS := 60
  bts := 32
  zc := .agg #[.int .i64 0, .int .i64 0, .int .i64 0, .int .i64 0]
  td := match Tryz.prog.underlying 74 with | some t => t | none => .bool
  len _ := rfl
  one _ := rfl
  inf := by kernel_rfl
  zl := rfl
  cap := 4000000000000
  hc1 := by decide
  hc2 := by decide
  hcb := by decide
  hz := by decide
  ud := by kernel_rfl
  row := by kernel_rfl
  ul := by kernel_rfl
  el := by kernel_rfl
theorem bt_commaObject {a b c : Int} : Tryz.prog.built 67 [(0, .int .i64 a), (1, .int .i64 b), (2, .int .i64 c)] = some #[.int .i64 a, .int .i64 b, .int .i64 c] := by kernel_rfl
theorem bt_commaArrow {a b c d : Int} : Tryz.prog.built 74 [(0, .agg #[.int .i64 a, .int .i64 b]), (1, .int .i64 c), (2, .int .i64 d)] = some #[.int .i64 a, .int .i64 b, .int .i64 c, .int .i64 d] := by kernel_rfl
theorem bt_cospan {o1 o2 p1 p2 : Int} {x1 x2 x3 x4 x5 x6 x7 x8 x9 x10 y1 y2 y3 y4 y5 y6 y7 y8 y9 y10 : Option Addr} {n1 n2 n3 n4 n5 n6 n7 n8 n9 n10 j1 j2 j3 j4 j5 j6 j7 j8 j9 j10 k1 k2 k3 k4 k5 k6 k7 k8 k9 k10 l1 l2 l3 l4 l5 l6 l7 l8 l9 l10 : Nat} : Tryz.prog.built 58 [(0, .agg #[.int .i64 o1, .slice x1 n1 k1, .slice x2 n2 k2, .slice x3 n3 k3, .slice x4 n4 k4, .int .i64 o2, .slice x5 n5 k5, .slice x6 n6 k6, .slice x7 n7 k7, .slice x8 n8 k8, .slice x9 n9 k9, .slice x10 n10 k10]), (1, .agg #[.int .i64 p1, .slice y1 j1 l1, .slice y2 j2 l2, .slice y3 j3 l3, .slice y4 j4 l4, .int .i64 p2, .slice y5 j5 l5, .slice y6 j6 l6, .slice y7 j7 l7, .slice y8 j8 l8, .slice y9 j9 l9, .slice y10 j10 l10])] = some #[.int .i64 o1, .slice x1 n1 k1, .slice x2 n2 k2, .slice x3 n3 k3, .slice x4 n4 k4, .int .i64 o2, .slice x5 n5 k5, .slice x6 n6 k6, .slice x7 n7 k7, .slice x8 n8 k8, .slice x9 n9 k9, .slice x10 n10 k10, .int .i64 p1, .slice y1 j1 l1, .slice y2 j2 l2, .slice y3 j3 l3, .slice y4 j4 l4, .int .i64 p2, .slice y5 j5 l5, .slice y6 j6 l6, .slice y7 j7 l7, .slice y8 j8 l8, .slice y9 j9 l9, .slice y10 j10 l10] := by kernel_rfl
def cpkI (B : List Itm) : Itm := consI (fun _ : Unit => B) (fun _ => True)
theorem cpk_in {w0 w : World} {B js : List Itm} (M : Mem w0 w (B ++ js)) : Mem w0 w (cpkI B :: js) := mem_cons_in () trivial M
theorem cpk_out {w0 w : World} {B js : List Itm} (M : Mem w0 w (cpkI B :: js)) : Mem w0 w (B ++ js) := by obtain ⟨_, _, M⟩ := mem_cons_out M; exact M
theorem cm_parts {w : World} {F : Fct} {s1 s2 s3 s4 t1 t2 t3 t4 vo va : Value} (h : RdF w (.agg #[.int .i64 F.S.ob, s1, s2, s3, s4, .int .i64 F.T.ob, t1, t2, t3, t4, vo, va]) F) : RdC w (.agg #[.int .i64 F.S.ob, s1, s2, s3, s4]) F.S ∧ RdC w (.agg #[.int .i64 F.T.ob, t1, t2, t3, t4]) F.T ∧ Rd w vo F.o ∧ Rd w va F.a ∧ Rd w s3 F.S.e := by
  obtain ⟨y1, y2, y3, y4, y5, y6, y7, y8, y9, y10, hv, h1, h2, h3, h4⟩ := h
  obtain ⟨rfl, rfl, rfl, rfl, rfl, rfl, rfl, rfl, rfl, rfl⟩ := agg12 hv
  exact ⟨⟨_, _, _, _, rfl, h1⟩, ⟨_, _, _, _, rfl, h2⟩, h3, h4, h1.2.2.1⟩
structure CspR (w : World) (F G : Fct) (x1 x2 x3 x4 x5 x6 x7 x8 x9 x10 y1 y2 y3 y4 y5 y6 y7 y8 y9 y10 : Option Addr) (k1 k2 k3 k4 k5 k6 k7 k8 k9 k10 l1 l2 l3 l4 l5 l6 l7 l8 l9 l10 : Nat) : Prop where
  hF : RdF w (.agg #[.int .i64 F.S.ob, .slice x1 F.S.s.length k1, .slice x2 F.S.t.length k2, .slice x3 F.S.e.length k3, .slice x4 F.S.m.length k4, .int .i64 F.T.ob, .slice x5 F.T.s.length k5, .slice x6 F.T.t.length k6, .slice x7 F.T.e.length k7, .slice x8 F.T.m.length k8, .slice x9 F.o.length k9, .slice x10 F.a.length k10]) F
  hG : RdF w (.agg #[.int .i64 G.S.ob, .slice y1 G.S.s.length l1, .slice y2 G.S.t.length l2, .slice y3 G.S.e.length l3, .slice y4 G.S.m.length l4, .int .i64 G.T.ob, .slice y5 G.T.s.length l5, .slice y6 G.T.t.length l6, .slice y7 G.T.e.length l7, .slice y8 G.T.m.length l8, .slice y9 G.o.length l9, .slice y10 G.a.length l10]) G
  FS : RdC w (.agg #[.int .i64 F.S.ob, .slice x1 F.S.s.length k1, .slice x2 F.S.t.length k2, .slice x3 F.S.e.length k3, .slice x4 F.S.m.length k4]) F.S
  FT : RdC w (.agg #[.int .i64 F.T.ob, .slice x5 F.T.s.length k5, .slice x6 F.T.t.length k6, .slice x7 F.T.e.length k7, .slice x8 F.T.m.length k8]) F.T
  Fo : Rd w (.slice x9 F.o.length k9) F.o
  Fa : Rd w (.slice x10 F.a.length k10) F.a
  FSe : Rd w (.slice x3 F.S.e.length k3) F.S.e
  GS : RdC w (.agg #[.int .i64 G.S.ob, .slice y1 G.S.s.length l1, .slice y2 G.S.t.length l2, .slice y3 G.S.e.length l3, .slice y4 G.S.m.length l4]) G.S
  GT : RdC w (.agg #[.int .i64 G.T.ob, .slice y5 G.T.s.length l5, .slice y6 G.T.t.length l6, .slice y7 G.T.e.length l7, .slice y8 G.T.m.length l8]) G.T
  Go : Rd w (.slice y9 G.o.length l9) G.o
  Ga : Rd w (.slice y10 G.a.length l10) G.a
  GSe : Rd w (.slice y3 G.S.e.length l3) G.S.e
theorem csp_mk {w : World} {F G : Fct} {x1 x2 x3 x4 x5 x6 x7 x8 x9 x10 y1 y2 y3 y4 y5 y6 y7 y8 y9 y10 : Option Addr} {k1 k2 k3 k4 k5 k6 k7 k8 k9 k10 l1 l2 l3 l4 l5 l6 l7 l8 l9 l10 : Nat} (h : RdF w (.agg #[.int .i64 F.S.ob, .slice x1 F.S.s.length k1, .slice x2 F.S.t.length k2, .slice x3 F.S.e.length k3, .slice x4 F.S.m.length k4, .int .i64 F.T.ob, .slice x5 F.T.s.length k5, .slice x6 F.T.t.length k6, .slice x7 F.T.e.length k7, .slice x8 F.T.m.length k8, .slice x9 F.o.length k9, .slice x10 F.a.length k10]) F) (h' : RdF w (.agg #[.int .i64 G.S.ob, .slice y1 G.S.s.length l1, .slice y2 G.S.t.length l2, .slice y3 G.S.e.length l3, .slice y4 G.S.m.length l4, .int .i64 G.T.ob, .slice y5 G.T.s.length l5, .slice y6 G.T.t.length l6, .slice y7 G.T.e.length l7, .slice y8 G.T.m.length l8, .slice y9 G.o.length l9, .slice y10 G.a.length l10]) G) : CspR w F G x1 x2 x3 x4 x5 x6 x7 x8 x9 x10 y1 y2 y3 y4 y5 y6 y7 y8 y9 y10 k1 k2 k3 k4 k5 k6 k7 k8 k9 k10 l1 l2 l3 l4 l5 l6 l7 l8 l9 l10 := by
  have p := cm_parts h; have q := cm_parts h'
  exact ⟨h, h', p.1, p.2.1, p.2.2.1, p.2.2.2.1, p.2.2.2.2, q.1, q.2.1, q.2.2.1, q.2.2.2.1, q.2.2.2.2⟩
theorem csp_below {w w' : World} {F G : Fct} {x1 x2 x3 x4 x5 x6 x7 x8 x9 x10 y1 y2 y3 y4 y5 y6 y7 y8 y9 y10 : Option Addr} {k1 k2 k3 k4 k5 k6 k7 k8 k9 k10 l1 l2 l3 l4 l5 l6 l7 l8 l9 l10 : Nat} (hb : Below w.heap.size w w') (h : CspR w F G x1 x2 x3 x4 x5 x6 x7 x8 x9 x10 y1 y2 y3 y4 y5 y6 y7 y8 y9 y10 k1 k2 k3 k4 k5 k6 k7 k8 k9 k10 l1 l2 l3 l4 l5 l6 l7 l8 l9 l10) : CspR w' F G x1 x2 x3 x4 x5 x6 x7 x8 x9 x10 y1 y2 y3 y4 y5 y6 y7 y8 y9 y10 k1 k2 k3 k4 k5 k6 k7 k8 k9 k10 l1 l2 l3 l4 l5 l6 l7 l8 l9 l10 := csp_mk (rdF_below hb h.hF) (rdF_below hb h.hG)
inductive RetCP (W : World) (F G : Fct) (c : Int) (e : Ending) (w' : World) : Prop where
  | mk (x1 x2 x3 x4 x5 x6 x7 x8 x9 x10 y1 y2 y3 y4 y5 y6 y7 y8 y9 y10 : Option Addr) (k1 k2 k3 k4 k5 k6 k7 k8 k9 k10 l1 l2 l3 l4 l5 l6 l7 l8 l9 l10 : Nat) (u1 u2 v1 v2 : List Value) (he : e = .returned (.tuple #[.agg #[.int .i64 F.S.ob, .slice x1 F.S.s.length k1, .slice x2 F.S.t.length k2, .slice x3 F.S.e.length k3, .slice x4 F.S.m.length k4, .int .i64 F.T.ob, .slice x5 F.T.s.length k5, .slice x6 F.T.t.length k6, .slice x7 F.T.e.length k7, .slice x8 F.T.m.length k8, .slice x9 F.o.length k9, .slice x10 F.a.length k10, .int .i64 G.S.ob, .slice y1 G.S.s.length l1, .slice y2 G.S.t.length l2, .slice y3 G.S.e.length l3, .slice y4 G.S.m.length l4, .int .i64 G.T.ob, .slice y5 G.T.s.length l5, .slice y6 G.T.t.length l6, .slice y7 G.T.e.length l7, .slice y8 G.T.m.length l8, .slice y9 G.o.length l9, .slice y10 G.a.length l10], .int .i64 c])) (hs : Star [cpkI [own1I (.slice x1 F.S.s.length k1) F.S.s, own1I (.slice x2 F.S.t.length k2) F.S.t, own1I (.slice x3 F.S.e.length k3) F.S.e, own2U (.slice x4 F.S.m.length k4) u1 F.S.m, own1I (.slice x5 F.T.s.length k5) F.T.s, own1I (.slice x6 F.T.t.length k6) F.T.t, own1I (.slice x7 F.T.e.length k7) F.T.e, own2U (.slice x8 F.T.m.length k8) u2 F.T.m, own1I (.slice x9 F.o.length k9) F.o, own1I (.slice x10 F.a.length k10) F.a, own1I (.slice y1 G.S.s.length l1) G.S.s, own1I (.slice y2 G.S.t.length l2) G.S.t, own1I (.slice y3 G.S.e.length l3) G.S.e, own2U (.slice y4 G.S.m.length l4) v1 G.S.m, own1I (.slice y5 G.T.s.length l5) G.T.s, own1I (.slice y6 G.T.t.length l6) G.T.t, own1I (.slice y7 G.T.e.length l7) G.T.e, own2U (.slice y8 G.T.m.length l8) v2 G.T.m, own1I (.slice y9 G.o.length l9) G.o, own1I (.slice y10 G.a.length l10) G.a]] w' (fun k => W.heap.size ≤ k)) (hb : Below W.heap.size W w') : RetCP W F G c e w'
inductive RetCS (W : World) (F G : Fct) (c : Cat) (os : List (Ent Int)) (rs : List (Ent (Int × Int))) (n : Int) (e : Ending) (w' : World) : Prop where
  | mk (x1 x2 x3 x4 x5 x6 x7 x8 x9 x10 y1 y2 y3 y4 y5 y6 y7 y8 y9 y10 z1 z2 z3 z4 oa ra : Option Addr) (k1 k2 k3 k4 k5 k6 k7 k8 k9 k10 l1 l2 l3 l4 l5 l6 l7 l8 l9 l10 m1 m2 m3 m4 oq rq : Nat) (u1 u2 v1 v2 p : List Value) (he : e = .returned (.tuple #[.agg #[.int .i64 F.S.ob, .slice x1 F.S.s.length k1, .slice x2 F.S.t.length k2, .slice x3 F.S.e.length k3, .slice x4 F.S.m.length k4, .int .i64 F.T.ob, .slice x5 F.T.s.length k5, .slice x6 F.T.t.length k6, .slice x7 F.T.e.length k7, .slice x8 F.T.m.length k8, .slice x9 F.o.length k9, .slice x10 F.a.length k10, .int .i64 G.S.ob, .slice y1 G.S.s.length l1, .slice y2 G.S.t.length l2, .slice y3 G.S.e.length l3, .slice y4 G.S.m.length l4, .int .i64 G.T.ob, .slice y5 G.T.s.length l5, .slice y6 G.T.t.length l6, .slice y7 G.T.e.length l7, .slice y8 G.T.m.length l8, .slice y9 G.o.length l9, .slice y10 G.a.length l10, .int .i64 c.ob, .slice z1 c.s.length m1, .slice z2 c.t.length m2, .slice z3 c.e.length m3, .slice z4 c.m.length m4, .slice oa os.length oq, .slice ra rs.length rq], .int .i64 n])) (hs : Star [own1I (.slice x1 F.S.s.length k1) F.S.s, own1I (.slice x2 F.S.t.length k2) F.S.t, own1I (.slice x3 F.S.e.length k3) F.S.e, own2U (.slice x4 F.S.m.length k4) u1 F.S.m, own1I (.slice x5 F.T.s.length k5) F.T.s, own1I (.slice x6 F.T.t.length k6) F.T.t, own1I (.slice x7 F.T.e.length k7) F.T.e, own2U (.slice x8 F.T.m.length k8) u2 F.T.m, own1I (.slice x9 F.o.length k9) F.o, own1I (.slice x10 F.a.length k10) F.a, own1I (.slice y1 G.S.s.length l1) G.S.s, own1I (.slice y2 G.S.t.length l2) G.S.t, own1I (.slice y3 G.S.e.length l3) G.S.e, own2U (.slice y4 G.S.m.length l4) v1 G.S.m, own1I (.slice y5 G.T.s.length l5) G.T.s, own1I (.slice y6 G.T.t.length l6) G.T.t, own1I (.slice y7 G.T.e.length l7) G.T.e, own2U (.slice y8 G.T.m.length l8) v2 G.T.m, own1I (.slice y9 G.o.length l9) G.o, own1I (.slice y10 G.a.length l10) G.a, ownEI0 lab_co (.slice oa os.length oq) os, own1I (.slice z1 c.s.length m1) c.s, own1I (.slice z2 c.t.length m2) c.t, own1I (.slice z3 c.e.length m3) c.e, own2U (.slice z4 c.m.length m4) p c.m, ownEI0 lab_ca (.slice ra rs.length rq) rs] w' (fun k => W.heap.size ≤ k)) (hb : Below W.heap.size W w') : RetCS W F G c os rs n e w'
theorem mem_swap2 {w0 w : World} {i j : Itm} {js : List Itm} (M : Mem w0 w (i :: j :: js)) : Mem w0 w (j :: i :: js) := mem_perm (List.Perm.swap ..) M
theorem seqC_pack {α β : Type} {w0 : World} {B : List Itm} {gf : Nat} {lb : List Value} {val : α → Value} {T : α → List Itm} {dec : α → β} {L : List β} (h : SeqC w0 B gf lb val T dec L) : SeqC w0 [cpkI B] gf lb val T dec L := fun C Cx l Y W M => by
  have out : ∀ {i : Itm} {W : World}, Mem w0 W (i :: [cpkI B]) → Mem w0 W (i :: B) := fun {i W} M => by
    have := cpk_out (mem_swap2 M)
    exact mem_perm (List.perm_append_singleton _ _) this
  have into : ∀ {i : Itm} {W : World}, Mem w0 W (i :: B) → Mem w0 W (i :: [cpkI B]) := fun {i W} M => mem_swap2 (cpk_in (mem_perm (List.perm_append_singleton _ _).symm M))
  refine (h C Cx l Y W (out M)).mono fun e w' hh => ⟨hh.1, ?_⟩
  rcases hh.2 with ⟨xs, h1, h2⟩ | ⟨pre, h1, h2⟩
  · exact .inl ⟨xs, h1, into h2⟩
  · exact .inr ⟨pre, h1, into h2⟩
theorem cm_pick1 : ∀ {is : List Itm} {n : Nat} {i : Itm}, is[n]? = some i → is.Perm (i :: is.eraseIdx n)
  | [], n, i, h => by simp at h
  | j :: is, 0, i, h => by
    simp only [List.getElem?_cons_zero, Option.some.injEq] at h
    subst h; exact List.Perm.refl _
  | j :: is, n + 1, i, h => (List.Perm.cons j (cm_pick1 (by simpa using h))).trans (List.Perm.swap ..)
def cpick : List Itm → List Nat → List Itm
  | is, [] => is
  | is, k :: ks => match is[k]? with
    | some i => i :: cpick (is.eraseIdx k) ks
    | none => cpick is ks
theorem cpick_perm : ∀ (ks : List Nat) (is : List Itm), is.Perm (cpick is ks)
  | [], is => by unfold cpick; exact List.Perm.refl _
  | k :: ks, is => by
    unfold cpick
    cases h : is[k]? with
    | none => exact cpick_perm ks is
    | some i =>
      have h1 : is.Perm (i :: is.eraseIdx k) := cm_pick1 h
      exact h1.trans (List.Perm.cons _ (cpick_perm ks _))
def RetCl1 (W : World) (gf : Nat) (t : TypeId) (cs : List Value) (e : Ending) (w' : World) : Prop := ∃ B, e = .returned (.func (.func gf) #[] #[.pointer (some ⟨B, 0, none⟩)]) ∧ Star [bxI B t cs] w' (fun k => W.heap.size ≤ k) ∧ Below W.heap.size W w'
def RetCl2 (W : World) (gf : Nat) (t : TypeId) (cs : List Value) (t2 : TypeId) (cs2 : List Value) (e : Ending) (w' : World) : Prop := ∃ B D, e = .returned (.func (.func gf) #[] #[.pointer (some ⟨B, 0, none⟩), .pointer (some ⟨D, 0, none⟩)]) ∧ Star [bxI B t cs, bxI D t2 cs2] w' (fun k => W.heap.size ≤ k) ∧ Below W.heap.size W w'
def RetCl3 (W : World) (gf : Nat) (t : TypeId) (cs : List Value) (t2 : TypeId) (cs2 : List Value) (t3 : TypeId) (cs3 : List Value) (e : Ending) (w' : World) : Prop := ∃ B D H, e = .returned (.func (.func gf) #[] #[.pointer (some ⟨B, 0, none⟩), .pointer (some ⟨D, 0, none⟩), .pointer (some ⟨H, 0, none⟩)]) ∧ Star [bxI B t cs, bxI D t2 cs2, bxI H t3 cs3] w' (fun k => W.heap.size ≤ k) ∧ Below W.heap.size W w'
def HoldC (w0 : World) (H : Itm) (F G : Fct) (x1 x2 x3 x4 x5 x6 x7 x8 x9 x10 y1 y2 y3 y4 y5 y6 y7 y8 y9 y10 : Option Addr) (k1 k2 k3 k4 k5 k6 k7 k8 k9 k10 l1 l2 l3 l4 l5 l6 l7 l8 l9 l10 : Nat) : Prop := ∀ (is : List Itm) (n : Nat) (w : World), Mem w0 w is → is[n]? = some H → CspR w F G x1 x2 x3 x4 x5 x6 x7 x8 x9 x10 y1 y2 y3 y4 y5 y6 y7 y8 y9 y10 k1 k2 k3 k4 k5 k6 k7 k8 k9 k10 l1 l2 l3 l4 l5 l6 l7 l8 l9 l10
theorem hold_fact {w0 : World} {H : Itm} {F G : Fct} {x1 x2 x3 x4 x5 x6 x7 x8 x9 x10 y1 y2 y3 y4 y5 y6 y7 y8 y9 y10 : Option Addr} {k1 k2 k3 k4 k5 k6 k7 k8 k9 k10 l1 l2 l3 l4 l5 l6 l7 l8 l9 l10 : Nat} (h : CspR w0 F G x1 x2 x3 x4 x5 x6 x7 x8 x9 x10 y1 y2 y3 y4 y5 y6 y7 y8 y9 y10 k1 k2 k3 k4 k5 k6 k7 k8 k9 k10 l1 l2 l3 l4 l5 l6 l7 l8 l9 l10) : HoldC w0 H F G x1 x2 x3 x4 x5 x6 x7 x8 x9 x10 y1 y2 y3 y4 y5 y6 y7 y8 y9 y10 k1 k2 k3 k4 k5 k6 k7 k8 k9 k10 l1 l2 l3 l4 l5 l6 l7 l8 l9 l10 := fun _ _ _ M _ => csp_below M.1 h
theorem atE0_E {α : Type} [Inhabited α] (es : List (Ent α)) (i : Int) : atE0 es i = atE es i := by unfold atE0 atE; rfl
def CCg {α : Type} (C Cx : List α → Itm) (b : Bool) (ys : List α) : Itm := match b with | true => C ys | false => Cx ys
theorem cm_sl2U {w0 w : World} {is : List Itm} {n : Nat} {v : Value} {us : List Value} {rows : List (List Int)} (M : Mem w0 w is) (h : is[n]? = some (own2U v us rows)) : Sl2 w w0.heap.size v rows := by
  obtain ⟨S, hS, hb⟩ := mem_get M h
  exact Own2.at (S := S) ⟨_, hb⟩ hS
theorem cm_mapid {α : Type} (l : List α) : l.map (fun x => x) = l := by simp
section
variable {w0 : World} {is : List Itm} {ops : Array Oper} {Q : Exit → Act → World → Prop} {o : Oper} {rest : List Oper} {N : Frm} {n m : Nat} {e : Env} {v : Value} {d : Nat} {K : Act → World → Prop} {f : FuncId} {fn : Func} {ags : Array Operand} {ts : Array TypeId} {vs : List Value}
theorem go_callIt {σ : Type} {New : σ → List Itm} {V : σ → Value} {X B : List Itm} (ks : List Nat) (hd : o.dst = some d) (hN : Nat.blt d N = true) (hop : o.op = .call { callee := .value (.func f), args := ags, argTypes := ts }) (hfn : Tryz.prog.funcs[f]? = some fn) (hb : fn.body.isNone = false) (hn : (fn.name == "runtime.NumGoroutine") = false) (hargs : evoL e ags.toList = some vs) (hB : cpick is ks = B ++ X)
    (hc : ∀ (R : Itm) w, Mem w0 w [cpkI B, R] → Calls Tryz.prog f vs.toArray w (fun e w' => ∃ s : σ, e = .returned (V s) ∧ Mem w0 w' (cpkI B :: R :: New s)))
    (hk : ∀ s, GK w0 (is ++ New s) N K ((d, V s) :: e)) : GO w0 is N o e Q K := by
  intro w a M F
  have hXB : is.Perm (B ++ X) := by rw [← hB]; exact cpick_perm ks is
  have M1 : Mem w0 w (cpkI B :: [tailI X]) := mem_tail_in (L := [cpkI B]) (cpk_in (mem_perm hXB M))
  refine go_call hd hN F hop hfn hb hn hargs (hc _ w M1) fun e' w' hR => ?_
  obtain ⟨s, rfl, M2⟩ := hR
  have M3 : Mem w0 w' ((cpkI B :: New s) ++ [tailI X]) := mem_perm (List.Perm.cons _ (List.perm_append_singleton _ _).symm) M2
  have M4 := cpk_out (mem_tail_out M3)
  have M5 : Mem w0 w' (is ++ New s) := mem_perm (by
    refine List.Perm.trans ?_ (List.Perm.append_right _ hXB.symm)
    rw [List.append_assoc]
    exact List.Perm.append_left _ List.perm_append_comm) M4
  exact ⟨_, rfl, fun a F => hk s w' a M5 F⟩
theorem qt_loadE0E {α : Type} [Inhabited α] (L : Lab0 α) {x : Operand} {t : TypeId} {u : Value} {es : List (Ent α)} {i : Int} (hop : o.op = .load t x) (hx : evo e x = some (eltE0 (L.z + 2) u i)) (ht : t = L.tE)
    (hr : ∀ w, Mem w0 w is → RdE0 L w u es) (h0 : 0 ≤ i) (h1 : i < es.length) : QV w0 is o e (encA0 L (atE es i)) := by
  rw [← atE0_E]; exact qt_loadE0 L hop hx ht hr h0 h1
theorem qt_load_co {x : Operand} {t : TypeId} {u : Value} {es : List (Ent Int)} {i : Int} (hop : o.op = .load t x) (hx : evo e x = some (eltE0 (lab_co.z + 2) u i)) (ht : t = lab_co.tE)
    (hr : ∀ w, Mem w0 w is → RdE0 lab_co w u es) (h0 : 0 ≤ i) (h1 : i < es.length) : QV w0 is o e (.agg #[.int .i64 (atE es i).1, .int .i64 (atE es i).2.1, .int .i64 (atE es i).2.2]) := qt_loadE0E lab_co hop hx ht hr h0 h1
theorem go_callCl1 {gf : Nat} {t : TypeId} {cs : List Value} (hd : o.dst = some d) (hN : Nat.blt d N = true) (hop : o.op = .call { callee := .value (.func f), args := ags, argTypes := ts }) (hfn : Tryz.prog.funcs[f]? = some fn) (hb : fn.body.isNone = false) (hn : (fn.name == "runtime.NumGoroutine") = false) (hargs : evoL e ags.toList = some vs) (hc : ∀ w, Mem w0 w is → Calls Tryz.prog f vs.toArray w (RetCl1 w gf t cs))
    (hk : ∀ B, GK w0 (is ++ [bxI B t cs]) N K ((d, .func (.func gf) #[] #[.pointer (some ⟨B, 0, none⟩)]) :: e)) : GO w0 is N o e Q K := by
  intro w a M F
  refine go_call hd hN F hop hfn hb hn hargs (hc w M) fun e' w' hR => ?_
  obtain ⟨B, rfl, hs, hbl⟩ := hR
  exact ⟨_, rfl, fun a F => hk B w' a (mem_news M hbl hs) F⟩
theorem go_callCl2 {gf : Nat} {t : TypeId} {cs : List Value} {t2 : TypeId} {cs2 : List Value} (hd : o.dst = some d) (hN : Nat.blt d N = true) (hop : o.op = .call { callee := .value (.func f), args := ags, argTypes := ts }) (hfn : Tryz.prog.funcs[f]? = some fn) (hb : fn.body.isNone = false) (hn : (fn.name == "runtime.NumGoroutine") = false) (hargs : evoL e ags.toList = some vs) (hc : ∀ w, Mem w0 w is → Calls Tryz.prog f vs.toArray w (RetCl2 w gf t cs t2 cs2))
    (hk : ∀ B D, GK w0 (is ++ [bxI B t cs, bxI D t2 cs2]) N K ((d, .func (.func gf) #[] #[.pointer (some ⟨B, 0, none⟩), .pointer (some ⟨D, 0, none⟩)]) :: e)) : GO w0 is N o e Q K := by
  intro w a M F
  refine go_call hd hN F hop hfn hb hn hargs (hc w M) fun e' w' hR => ?_
  obtain ⟨B, D, rfl, hs, hbl⟩ := hR
  exact ⟨_, rfl, fun a F => hk B D w' a (mem_news M hbl hs) F⟩
theorem go_callCl3 {gf : Nat} {t : TypeId} {cs : List Value} {t2 : TypeId} {cs2 : List Value} {t3 : TypeId} {cs3 : List Value} (hd : o.dst = some d) (hN : Nat.blt d N = true) (hop : o.op = .call { callee := .value (.func f), args := ags, argTypes := ts }) (hfn : Tryz.prog.funcs[f]? = some fn) (hb : fn.body.isNone = false) (hn : (fn.name == "runtime.NumGoroutine") = false) (hargs : evoL e ags.toList = some vs) (hc : ∀ w, Mem w0 w is → Calls Tryz.prog f vs.toArray w (RetCl3 w gf t cs t2 cs2 t3 cs3))
    (hk : ∀ B D H, GK w0 (is ++ [bxI B t cs, bxI D t2 cs2, bxI H t3 cs3]) N K ((d, .func (.func gf) #[] #[.pointer (some ⟨B, 0, none⟩), .pointer (some ⟨D, 0, none⟩), .pointer (some ⟨H, 0, none⟩)]) :: e)) : GO w0 is N o e Q K := by
  intro w a M F
  refine go_call hd hN F hop hfn hb hn hargs (hc w M) fun e' w' hR => ?_
  obtain ⟨B, D, H, rfl, hs, hbl⟩ := hR
  exact ⟨_, rfl, fun a F => hk B D H w' a (mem_news M hbl hs) F⟩
theorem gc_toEnd {c : Code} {i : Itm} (n : Nat) (hi : is[n]? = some i) (hk : GC w0 (is.eraseIdx n ++ [i]) N c Q e) : GC w0 is N c Q e := fun w a M F => hk w a (mem_perm (List.perm_append_singleton _ _).symm (mem_pick M hi)) F
end
end Go.Proofs.YtpcabkdkdnchaaaGreat
