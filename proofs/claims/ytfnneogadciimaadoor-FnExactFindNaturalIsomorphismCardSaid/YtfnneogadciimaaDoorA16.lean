import Derived.Test.YtfnneogadciimaaDoorA14
import Derived.Test.YtfnneogadciimaaDoorA15
set_option linter.unusedSimpArgs false
set_option linter.unusedVariables false
set_option linter.unusedSectionVars false
namespace Go.Proofs.YtfnneogadciimaaDoor
open Go.RowKit
theorem accK_f' {κ : Int → Bool} {ps : List Int} {p : Int} (h : κ p = false) : accK κ (ps ++ [p]) = accK κ ps := accK_f (by rw [h]; exact Bool.false_ne_true)
theorem atW_mem {ss : List Nat} {i : Int} (h0 : 0 ≤ i) (h1 : i < ss.length) : atW ss i ∈ ss := by
  show ss.getD i.toNat 0 ∈ ss
  rw [List.getD_eq_getElem?_getD, List.getElem?_eq_getElem (by omega)]; exact List.getElem_mem _
theorem only_in {p z L : Int} (h0 : 0 ≤ p) (h1 : p < 40) (hL : p < L) (h : z ∈ bitsI (onlyN p)) : 0 ≤ z ∧ z < L := by
  rw [bits_only h0 (by omega)] at h
  rcases List.mem_singleton.1 h with rfl; exact ⟨h0, hL⟩
theorem bits_new {s : Nat} {pre : List Int} {p : Int} (h : (pre ++ [p]) <+: bitsI s) : p ∉ pre := by
  have hn : (bitsI s).Nodup := by
    unfold bitsI bitsN
    refine List.Pairwise.map _ (fun a b hab => ?_) (List.Pairwise.filter _ List.nodup_range)
    intro e; exact hab (by exact_mod_cast e)
  have h2 := h.sublist.nodup hn
  intro hm
  have := (List.nodup_append.1 h2).2.2 p hm p (List.mem_singleton.2 rfl)
  exact this rfl
def tgtW (c : Cat) (ss : List Nat) (a p : Int) : Nat := if at0 c.s a = at0 c.t a then onlyN p else atW ss (at0 c.t a)
def entW (c : Cat) (ss : List Nat) (sq : Int → Int → Int → Bool) (a p : Int) : Nat := accK (sq a p) (bitsI (tgtW c ss a p))
def tabE (c : Cat) (ss : List Nat) (sq : Int → Int → Int → Bool) (a p : Int) : Nat := if p ∈ bitsI (atW ss (at0 c.s a)) then entW c ss sq a p else 0
theorem ent_t {c : Cat} {ss : List Nat} {sq : Int → Int → Int → Bool} {a p : Int} (h : at0 c.s a = at0 c.t a) : accK (sq a p) (bitsI (onlyN p)) = entW c ss sq a p := by unfold entW tgtW; rw [if_pos h]
theorem ent_f {c : Cat} {ss : List Nat} {sq : Int → Int → Int → Bool} {a p : Int} (h : ¬ at0 c.s a = at0 c.t a) : accK (sq a p) (bitsI (atW ss (at0 c.t a))) = entW c ss sq a p := by unfold entW tgtW; rw [if_neg h]
def cellW (c : Cat) (ss : List Nat) (sq : Int → Int → Int → Bool) (k : Nat) (q : List Int) (p0 : Int) (x : Nat) (a p : Nat) : Nat :=
  if a < k then tabE c ss sq (a : Int) (p : Int) else if a = k then (if (p : Int) = p0 then x else if (p : Int) ∈ q then entW c ss sq (a : Int) (p : Int) else 0) else 0
structure Tst (c : Cat) (ss : List Nat) (sq : Int → Int → Int → Bool) (n k : Nat) (q : List Int) (p0 : Int) (x : Nat) (fs : List Nat) : Prop where
  len : fs.length = n * 40
  get : ∀ a p : Nat, a < n → p < 40 → atM fs (a : Int) (p : Int) = cellW c ss sq k q p0 x a p
variable {c : Cat} {ss : List Nat} {sq : Int → Int → Int → Bool} {n k : Nat} {q : List Int} {p0 : Int} {x : Nat} {fs : List Nat}
theorem tst_0 (c : Cat) (ss : List Nat) (sq : Int → Int → Int → Bool) (n : Nat) : Tst c ss sq n 0 [] (-1) 0 (List.replicate (n * 40) 0) := by
  refine ⟨by simp, fun a p ha hp => ?_⟩
  have e : atM (List.replicate (n * 40) 0) (a : Int) (p : Int) = 0 := by
    unfold atM; rw [List.getD_eq_getElem?_getD, List.getElem?_replicate]; split <;> rfl
  rw [e]; unfold cellW
  rw [if_neg (by omega)]
  split
  · rw [if_neg (by omega), if_neg (by simp)]
  · rfl
theorem tst_start (h : Tst c ss sq n k q (-1) 0 fs) (hp : p0 ∉ q) (h0 : 0 ≤ p0) : Tst c ss sq n k q p0 (accK (sq (k : Int) p0) []) fs := by
  refine ⟨h.len, fun a p ha hb => ?_⟩
  rw [h.get a p ha hb]; unfold cellW
  rw [if_neg (show ¬ (p : Int) = -1 by omega)]
  split
  · rfl
  · split
    · by_cases e : (p : Int) = p0
      · rw [if_pos e, if_neg (by rw [e]; exact hp)]; rfl
      · rw [if_neg e]
    · rfl
theorem atM_set {fs : List Nat} {n k a p : Nat} {p0 : Int} {y : Nat} (hl : fs.length = n * 40) (hk : k < n) (h0 : 0 ≤ p0) (h1 : p0 < 40) (ha : a < n) (hp : p < 40) : atM (fs.set ((k : Int).toNat * 40 + p0.toNat) y) (a : Int) (p : Int) = if a = k ∧ (p : Int) = p0 then y else atM fs (a : Int) (p : Int) := by
  unfold atM
  rw [Int.toNat_natCast, Int.toNat_natCast, Int.toNat_natCast, List.getD_eq_getElem?_getD, List.getD_eq_getElem?_getD, List.getElem?_set]
  by_cases e : a = k ∧ (p : Int) = p0
  · have : k * 40 + p0.toNat = a * 40 + p := by rw [e.1]; omega
    have hlt : k * 40 + p0.toNat < fs.length := by
      have := Nat.mul_le_mul_right 40 (show k + 1 ≤ n from hk)
      omega
    rw [if_pos e, if_pos this, if_pos hlt]; rfl
  · have : ¬ k * 40 + p0.toNat = a * 40 + p := fun h => e (by omega)
    rw [if_neg e, if_neg this]
theorem tst_put {y : Nat} (h : Tst c ss sq n k q p0 x fs) (hk : k < n) (h0 : 0 ≤ p0) (h1 : p0 < 40) : Tst c ss sq n k q p0 y (fs.set ((k : Int).toNat * 40 + p0.toNat) y) := by
  refine ⟨by rw [List.length_set]; exact h.len, fun a p ha hb => ?_⟩
  rw [atM_set h.len hk h0 h1 ha hb]
  by_cases e : a = k ∧ (p : Int) = p0
  · rw [if_pos e]; unfold cellW; rw [if_neg (by omega), if_pos e.1, if_pos e.2]
  · rw [if_neg e, h.get a p ha hb]; unfold cellW
    split
    · rfl
    · split
      · rename_i h2; rw [if_neg (fun h3 => e ⟨h2, h3⟩), if_neg (fun h3 => e ⟨h2, h3⟩)]
      · rfl
theorem tst_get (h : Tst c ss sq n k q p0 x fs) (hk : k < n) (h0 : 0 ≤ p0) (h1 : p0 < 40) : atM fs (k : Int) p0 = x := by
  obtain ⟨m, rfl⟩ := Int.eq_ofNat_of_zero_le h0
  rw [h.get k m hk (by omega)]; unfold cellW
  rw [if_neg (by omega), if_pos rfl, if_pos rfl]
theorem tst_t {r : List Int} {z : Int} (h : Tst c ss sq n k q p0 (accK (sq (k : Int) p0) r) fs) (hk : k < n) (h0 : 0 ≤ p0) (h1 : p0 < 40) (hz : sq (k : Int) p0 z = true) : Tst c ss sq n k q p0 (accK (sq (k : Int) p0) (r ++ [z])) (fs.set ((k : Int).toNat * 40 + p0.toNat) (atM fs (k : Int) p0 ||| onlyN z)) := by
  rw [accK_t hz, tst_get h hk h0 h1]; exact tst_put h hk h0 h1
theorem tst_f {r : List Int} {z : Int} (h : Tst c ss sq n k q p0 (accK (sq (k : Int) p0) r) fs) (hz : sq (k : Int) p0 z = false) : Tst c ss sq n k q p0 (accK (sq (k : Int) p0) (r ++ [z])) fs := by rw [accK_f' hz]; exact h
theorem tst_end (h : Tst c ss sq n k q p0 x fs) (h0 : 0 ≤ p0) (hx : x = entW c ss sq (k : Int) p0) : Tst c ss sq n k (q ++ [p0]) (-1) 0 fs := by
  refine ⟨h.len, fun a p ha hb => ?_⟩
  rw [h.get a p ha hb]; unfold cellW
  rw [if_neg (show ¬ (p : Int) = -1 by omega)]
  split
  · rfl
  · split
    · rename_i h2; subst h2
      by_cases e : (p : Int) = p0
      · rw [if_pos e, if_pos (by simp [e]), hx, e]
      · rw [if_neg e]
        by_cases h3 : (p : Int) ∈ q
        · rw [if_pos h3, if_pos (by simp [h3])]
        · rw [if_neg h3, if_neg (by simp [h3, e])]
    · rfl
theorem tst_next (h : Tst c ss sq n k (bitsI (atW ss (at0 c.s (k : Int)))) (-1) 0 fs) : Tst c ss sq n (k + 1) [] (-1) 0 fs := by
  refine ⟨h.len, fun a p ha hb => ?_⟩
  rw [h.get a p ha hb]; unfold cellW
  by_cases h1 : a < k
  · rw [if_pos h1, if_pos (by omega)]
  · rw [if_neg h1]
    by_cases h2 : a = k
    · subst h2
      rw [if_pos rfl, if_neg (show ¬ (p : Int) = -1 by omega), if_pos (show a < a + 1 by omega)]; rfl
    · rw [if_neg h2, if_neg (by omega)]
      split
      · rw [if_neg (show ¬ (p : Int) = -1 by omega), if_neg (by simp)]
      · rfl
structure TabOK (c : Cat) (ss : List Nat) (sq : Int → Int → Int → Bool) (fs : List Nat) : Prop where
  len : fs.length = c.s.length * 40
  get : ∀ a p : Nat, a < c.s.length → p < 40 → atM fs (a : Int) (p : Int) = tabE c ss sq (a : Int) (p : Int)
theorem tst_ok (h : Tst c ss sq c.s.length c.s.length [] (-1) 0 fs) : TabOK c ss sq fs := by
  refine ⟨h.len, fun a p ha hb => ?_⟩
  rw [h.get a p ha hb]; unfold cellW; rw [if_pos ha]
def RetTb (W : World) (o : Int) (c1 c2 c3 c4 : Value) (n : Nat) (P : List Nat → Prop) (e : Ending) (w' : World) : Prop :=
  ∃ (fs : List Nat) (x : Option Addr), e = .returned (.agg #[.int .i64 o, c1, c2, c3, c4, .slice x n n]) ∧ P fs ∧ OwnM (.slice x n n) n fs w' (fun k => W.heap.size ≤ k) ∧ Below W.heap.size W w'
theorem bt_squareTable {o : Int} {x1 x2 x3 x4 x5 : Option Addr} {n1 n2 n3 n4 n5 m1 m2 m3 m4 m5 : Nat} : Tryd.prog.built 98 [(0, .agg #[.int .i64 o, .slice x1 n1 m1, .slice x2 n2 m2, .slice x3 n3 m3, .slice x4 n4 m4]), (1, .slice x5 n5 m5)] = some #[.int .i64 o, .slice x1 n1 m1, .slice x2 n2 m2, .slice x3 n3 m3, .slice x4 n4 m4, .slice x5 n5 m5] := by kernel_rfl
section
variable {w0 : World} {is : List Itm} {ops : Array Oper} {Q : Exit → Act → World → Prop} {o : Oper} {rest : List Oper} {N : Frm} {n m : Nat} {e : Env} {v : Value} {d : Nat} {K : Act → World → Prop} {f : FuncId} {fn : Func} {ags : Array Operand} {ts : Array TypeId} {vs : List Value}
theorem mem_ownMo {w : World} {fs : List Nat} (M : Mem w0 w is) (h : is[m]? = some (ownMI v n fs)) : OwnM v n fs w (fun k => w0.heap.size ≤ k) := by
  obtain ⟨S, hS, hb⟩ := mem_get M h
  exact (ownM_loc v n fs).keep (fun k _ hk => hS k hk) agree_refl hb
theorem go_callTb {o1 : Int} {c1 c2 c3 c4 : Value} {P : List Nat → Prop} (hd : o.dst = some d) (hN : Nat.blt d N = true) (hop : o.op = .call { callee := .value (.func f), args := ags, argTypes := ts }) (hfn : Tryd.prog.funcs[f]? = some fn) (hb : fn.body.isNone = false) (hn : (fn.name == "runtime.NumGoroutine") = false)
    (hargs : evoL e ags.toList = some vs) (hc : ∀ w, Mem w0 w is → Calls Tryd.prog f vs.toArray w (RetTb w o1 c1 c2 c3 c4 n P))
    (hk : ∀ fs x, P fs → GK w0 (is ++ [ownMI (.slice x n n) n fs]) N K ((d, .agg #[.int .i64 o1, c1, c2, c3, c4, .slice x n n]) :: e)) : GO w0 is N o e Q K := by
  intro w a M F
  refine go_call hd hN F hop hfn hb hn hargs (hc w M) fun e' w' hR => ?_
  obtain ⟨fs, x, rfl, hp, hs, hbl⟩ := hR
  exact ⟨_, rfl, fun a F => hk fs x hp w' a (mem_new M hbl hs) F⟩
end
set_option maxHeartbeats 4000000 in
set_option maxRecDepth 100000 in
theorem tabSq_any (w : World) (x1 x2 x3 x4 : Option Addr) (n1 n2 n3 n4 m1 m2 m3 m4 : Nat) (c : Cat) (u : Value) (ss : List Nat) (kv : Value) (sq : Int → Int → Int → Bool) (L : Int) (hLx : L ≤ 40) (hv : IsFn kv) (h : RdC w (.agg #[.int .i64 c.ob, .slice x1 n1 m1, .slice x2 n2 m2, .slice x3 n3 m3, .slice x4 n4 m4]) c) (hu : RdG elW w u ss) (hT : TabW w) (hS : ShapeP c) (hss : (ss.length : Int) = c.ob) (hs : AllF ss) (hL40 : ∀ s ∈ ss, ∀ p : Int, p ∈ bitsI s → p < L) (hk : ∀ w', Below w.heap.size w w' → ∀ a p q : Int, 0 ≤ a → a < c.s.length → 0 ≤ p → p < L → 0 ≤ q → q < L → CallsV kv [.int .i64 a, .int .i64 p, .int .i64 q] w' (RetB w' (sq a p q))) :
    Calls Tryd.prog 71 #[.agg #[.int .i64 c.ob, .slice x1 n1 m1, .slice x2 n2 m2, .slice x3 n3 m3, .slice x4 n4 m4], u, kv] w (RetTb w c.ob (.slice x1 n1 m1) (.slice x2 n2 m2) (.slice x3 n3 m3) (.slice x4 n4 m4) c.s.length (TabOK c ss sq)) := by
  obtain ⟨va, vc, rfl⟩ := rdG_form hu
  have tl := hS.tl; have n40 := hS.n40
  have hsw := hs.w
  refine gc_enterK (nf := 67) (args := [_, _, _]) (mem_nil w) Tryd.func71 rfl rfl (Nat.le_of_ble_eq_true rfl) (look_cons (k := 0) rfl (look_cons (k := 1) rfl (look_cons (k := 2) rfl (look_nil _)))) ?_
  refine gc_seqD fun K1 hK1 => ?_
  refine gc_region ?_
  refine g_op (.free rfl) fun K3 hK3 => ?_
  refine go_box rfl rfl rfl rfl rfl ?_
  intro B2
  refine hK3 _ _ ?_
  refine g_op (.free rfl) fun K5 hK5 => ?_
  refine go_box rfl rfl rfl rfl rfl ?_
  intro B4
  refine hK5 _ _ ?_
  refine g_op (.free rfl) fun K7 hK7 => ?_
  refine go_box rfl rfl rfl rfl hv.cells ?_
  intro B6
  refine hK7 _ _ ?_
  refine g_op (.free rfl) fun K9 hK9 => ?_
  refine go_alloc (z := (.agg #[.int .i64 0, .slice none 0 0, .slice none 0 0, .slice none 0 0, .slice none 0 0, .slice none 0 0])) (cs := [.int .i64 0, .slice none 0 0, .slice none 0 0, .slice none 0 0, .slice none 0 0, .slice none 0 0]) rfl rfl rfl (fun w => by kernel_rfl) rfl ?_
  intro B8
  refine hK9 _ _ ?_
  refine g_nil ?_
  refine gk_then (hK1 _ _ ?_)
  refine gc_seqD fun K10 hK10 => ?_
  try simp only [List.nil_append, List.cons_append, List.append_assoc, List.set_cons_succ, List.set_cons_zero]
  refine gc_cut ([(0, _), (1, _), (2, _), (3, _), (4, _), (5, _), (6, _)] : Env) (fun s : Nat × Nat => (fun (Bm : Nat) (Bt : Nat) => ([(7, .pointer (some ⟨Bt, 0, none⟩))] : Env)) s.1 s.2) (fun s : Nat × Nat => (fun (Bm : Nat) (Bt : Nat) => ([] : List (Nat × Itm))) s.1 s.2) (fun s : Nat × Nat => (fun (Bm : Nat) (Bt : Nat) => ([ownMI (.slice (some ⟨Bm, 0, none⟩) c.s.length c.s.length) c.s.length (List.replicate (c.s.length * 40) 0), bxI Bt 98 [.int .i64 c.ob, .slice x1 n1 m1, .slice x2 n2 m2, .slice x3 n3 m3, .slice x4 n4 m4, .slice (some ⟨Bm, 0, none⟩) c.s.length c.s.length]] : List Itm)) s.1 s.2) (sub_cons rfl (sub_cons rfl (sub_cons rfl (sub_cons rfl (sub_cons rfl (sub_cons rfl (sub_cons rfl sub_nil))))))) ?_ (fun HJ11 => ?_)
  · rintro ⟨Bm, Bt⟩
    simp only [updL, List.foldl_cons, List.foldl_nil, List.set_cons_succ, List.set_cons_zero, List.cons_append, List.nil_append]
    refine gk_then (hK10 _ _ ?_)
    refine gc_seqD fun K12 hK12 => ?_
    refine gc_seqD fun K13 hK13 => ?_
    refine gc_region ?_
    refine g_v (.free rfl) rfl rfl (qt_loadS (n := 1) rfl rfl Tryd.underlying30 rfl (by kernel_rfl) rfl) ?_
    refine g_q (.free rfl) rfl rfl (qt_call rfl Tryd.func40 rfl (by decide) rfl (fun w M => arrows_any w _ _ (mem_rdC M h))) ?_
    refine g_v (.free rfl) rfl rfl (qt_move rfl rfl) ?_
    refine g_nil ?_
    refine gk_then (hK13 _ _ ?_)
    refine gc_block ?_
    try simp only [List.nil_append, List.cons_append, List.append_assoc, List.set_cons_succ, List.set_cons_zero]
    refine gc_loopD ([(0, _), (1, _), (2, _), (3, _), (4, _), (5, _), (6, _), (7, _), (19, _)] : Env) (fun s : Nat × (List Nat) × (List Nat) => (fun (k : Nat) (fs : List Nat) (Ds : List Nat) => ([(20, .int .i64 (k : Int))] : Env)) s.1 s.2.1 s.2.2) (fun s : Nat × (List Nat) × (List Nat) => (fun (k : Nat) (fs : List Nat) (Ds : List Nat) => ([(0, dfsI Ds), (5, ownMI (.slice (some ⟨Bm, 0, none⟩) c.s.length c.s.length) c.s.length fs)] : List (Nat × Itm))) s.1 s.2.1 s.2.2) (fun s : Nat × (List Nat) × (List Nat) => (fun (k : Nat) (fs : List Nat) (Ds : List Nat) => Ds) s.1 s.2.1 s.2.2) (fun s : Nat × (List Nat) × (List Nat) => (fun (k : Nat) (fs : List Nat) (Ds : List Nat) => k ≤ c.s.length ∧ Tst c ss sq c.s.length k [] (-1) 0 fs) s.1 s.2.1 s.2.2) (fun s : Nat × (List Nat) × (List Nat) => (fun (k : Nat) (fs : List Nat) (Ds : List Nat) => c.s.length - k) s.1 s.2.1 s.2.2) (0, _, []) (sub_cons rfl (sub_cons rfl (sub_cons rfl (sub_cons rfl (sub_cons rfl (sub_cons rfl (sub_cons rfl (sub_cons rfl (sub_cons rfl (sub_cons rfl sub_nil)))))))))) rfl rfl ⟨Nat.zero_le _, tst_0 _ _ _ _⟩ ?_
    rintro ⟨k, fs, Ds⟩ hinv KL14 hKL14
    simp only [updL, List.foldl_cons, List.foldl_nil, List.set_cons_succ, List.set_cons_zero, List.cons_append, List.nil_append] at hinv hKL14 ⊢
    obtain ⟨hk1, hT0⟩ := hinv
    have hgl := h
    refine gc_seqD fun K15 hK15 => ?_
    refine gc_region ?_
    refine g_v (.free rfl) rfl rfl (qt_lss rfl rfl rfl) ?_
    refine g_nil ?_
    refine gk_then (hK15 _ _ ?_)
    refine gc_seqD fun K16 hK16 => ?_
    refine gc_cond rfl (fun hc0 => ?_) (fun hc0 => ?_)
    · try simp only [decide_eq_true_eq, decide_eq_false_iff_not, Bool.not_eq_true', Bool.not_eq_false', Bool.not_eq_eq_eq_not, Bool.not_true, Bool.not_false, ne_eq, Decidable.not_not, Classical.not_not] at hc0
      refine gc_skip ?_
      refine gk_then (hK16 _ _ ?_)
      refine gc_seqD fun K17 hK17 => ?_
      refine gc_block ?_
      refine gc_seqD fun K18 hK18 => ?_
      have hst := allP_at hS.sa (k := k) (by omega)
      have htt := allP_at hS.ta (k := k) (by omega)
      have hst0 := hst.1; have hst1 := hst.2; have htt0 := htt.1; have htt1 := htt.2
      refine gc_region ?_
      refine g_v (.free rfl) rfl rfl (qt_move rfl rfl) ?_
      refine g_op (.free rfl) fun K20 hK20 => ?_
      refine go_alloc (z := (.int .i64 0)) (cs := [.int .i64 0]) rfl rfl rfl (fun w => by kernel_rfl) rfl ?_
      intro B19
      refine hK20 _ _ ?_
      refine g_op (.free rfl) fun K21 hK21 => ?_
      refine go_storeB (n := 7) rfl rfl rfl rfl (by kernel_rfl) rfl rfl rfl (by first | decide | simp) ?_
      refine hK21 _ _ ?_
      refine g_nil ?_
      refine gk_then (hK18 _ _ ?_)
      refine gc_seqD fun K22 hK22 => ?_
      refine gc_region ?_
      refine g_v (.free rfl) rfl rfl (qt_loadS (n := 1) rfl rfl Tryd.underlying30 rfl (by kernel_rfl) rfl) ?_
      refine g_v (.free rfl) rfl rfl (qt_loadB (n := 7) rfl rfl Tryd.underlying2 rfl rfl rfl) ?_
      refine g_q (.free rfl) rfl rfl (qt_call rfl Tryd.func105 rfl (by decide) rfl (fun w M => ends_any w _ _ _ (mem_rdC M h) (by first | assumption | omega) (by first | assumption | omega) (by first | assumption | omega))) ?_
      refine g_op (.free rfl) fun K24 hK24 => ?_
      refine go_alloc (z := (.agg #[.int .i64 0, .int .i64 0])) (cs := [.int .i64 0, .int .i64 0]) rfl rfl rfl (fun w => by kernel_rfl) rfl ?_
      intro B23
      refine hK24 _ _ ?_
      refine g_op (.free rfl) fun K25 hK25 => ?_
      refine go_storeS (n := 8) rfl rfl rfl rfl (by kernel_rfl) rfl rfl rfl ?_
      refine hK25 _ _ ?_
      refine g_nil ?_
      refine gk_then (hK22 _ _ ?_)
      refine gc_seqD fun K26 hK26 => ?_
      refine gc_region ?_
      refine g_v (.free rfl) rfl rfl (qt_loadB (n := 2) rfl rfl Tryd.underlying68 rfl rfl rfl) ?_
      refine g_v (.free rfl) rfl rfl (qt_field (z := 0) (off := 0) rfl rfl Tryd.underlying133 rfl (by kernel_rfl) rfl) ?_
      refine g_v (.free rfl) rfl rfl (qt_loadB (n := 8) rfl rfl Tryd.underlying2 rfl rfl rfl) ?_
      refine g_v (.free rfl) rfl rfl (qt_index rfl rfl rfl ul_elW sz_elW (fun w M => lenA_G (mem_rdG M hu)) (by omega) (by omega)) ?_
      refine g_v (.free rfl) rfl rfl (qt_loadG elW rfl rfl Tryd.underlying86 rfl (fun w M => mem_rdG M hu) (by omega) (by omega)) ?_
      refine g_op (.free rfl) fun K28 hK28 => ?_
      refine go_callNum rfl rfl rfl Tryd.func91 rfl (by decide) rfl (fun w M => numbers_any w _) ?_
      intro B27
      refine hK28 _ _ ?_
      refine g_nil ?_
      refine gk_then (hK26 _ _ ?_)
      refine gc_block ?_
      try simp only [List.nil_append, List.cons_append, List.append_assoc, List.set_cons_succ, List.set_cons_zero]
      refine gc_rangeF (α := Int) (σ := (List Int) × (List Nat)) 8 rfl rfl Tryd.func118 rfl (by decide) rfl (num_seq hT (atW_lt hsw _)) (fun s : (List Int) × (List Nat) => (fun (q : List Int) (fs1 : List Nat) => ([(4, ownMI (.slice (some ⟨Bm, 0, none⟩) c.s.length c.s.length) c.s.length fs1)] : List (Nat × Itm))) s.1 s.2) (fun (pre : List Int) => (fun s : (List Int) × (List Nat) => (fun (q : List Int) (fs1 : List Nat) => q = pre ∧ Tst c ss sq c.s.length k q (-1) 0 fs1) s.1 s.2)) (fun (c : Code) (pre : List Int) => (fun s : (List Int) × (List Nat) => (fun (q : List Int) (fs1 : List Nat) => False) s.1 s.2)) ([], fs) ⟨rfl, hT0⟩ rfl rfl rfl ?_ ?_ ?_ ?_
      · rintro l29 r29 js29 pre p ⟨q, fs1⟩ hinv hpre Ka29 Kb29 hKp29 hKa29 hKn29 hKr29 hKe29
        simp only [updL, List.foldl_cons, List.foldl_nil, List.take_succ_cons, List.take_zero, List.drop_succ_cons, List.drop_zero, List.set_cons_succ, List.set_cons_zero, List.cons_append, List.nil_append] at hinv hKn29 hKr29 hKe29 ⊢
        obtain ⟨rfl, hT1⟩ := hinv
        rw [map_id'] at hpre
        have hp := bits40 (atW_F hs _) (pre_mem hpre)
        have p0 := hp.1; have p1 := hp.2.1
        have hnp : p ∉ q := bits_new hpre
        have pL : p < L := hL40 _ (atW_mem (by omega) (by omega)) p (pre_mem hpre)
        refine gc_region ?_
        refine g_op (.free rfl) fun K31 hK31 => ?_
        refine go_alloc (z := (.int .i64 0)) (cs := [.int .i64 0]) rfl rfl rfl (fun w => by kernel_rfl) rfl ?_
        intro B30
        refine hK31 _ _ ?_
        refine g_op (.free rfl) fun K32 hK32 => ?_
        refine go_storeB (n := 10) rfl rfl rfl rfl (by kernel_rfl) rfl rfl rfl (by first | decide | simp) ?_
        refine hK32 _ _ ?_
        refine g_nil ?_
        try simp only [List.nil_append, List.cons_append, List.append_assoc, List.set_cons_succ, List.set_cons_zero]
        refine gk_then (hKa29 _ _ ?_)
        refine gc_block ?_
        refine gc_seqD fun K33 hK33 => ?_
        refine gc_region ?_
        refine g_v (.free rfl) rfl rfl (qt_loadB (n := 2) rfl rfl Tryd.underlying68 rfl rfl rfl) ?_
        refine g_v (.free rfl) rfl rfl (qt_field (z := 0) (off := 1) rfl rfl Tryd.underlying133 rfl (by kernel_rfl) rfl) ?_
        refine g_v (.free rfl) rfl rfl (qt_loadB (n := 8) rfl rfl Tryd.underlying2 rfl rfl rfl) ?_
        refine g_v (.free rfl) rfl rfl (qt_index rfl rfl rfl ul_elW sz_elW (fun w M => lenA_G (mem_rdG M hu)) (by omega) (by omega)) ?_
        refine g_v (.free rfl) rfl rfl (qt_loadG elW rfl rfl Tryd.underlying86 rfl (fun w M => mem_rdG M hu) (by omega) (by omega)) ?_
        refine g_v (.free rfl) rfl rfl (qt_assign rfl rfl) ?_
        refine g_nil ?_
        refine gk_then (hK33 _ _ ?_)
        refine gc_seqD fun K34 hK34 => ?_
        refine gc_seqD fun K35 hK35 => ?_
        refine gc_region ?_
        refine g_v (.free rfl) rfl rfl (qt_field (z := 0) (off := 0) rfl rfl Tryd.underlying133 rfl (by kernel_rfl) rfl) ?_
        refine g_v (.free rfl) rfl rfl (qt_loadB (n := 8) rfl rfl Tryd.underlying2 rfl rfl rfl) ?_
        refine g_v (.free rfl) rfl rfl (qt_field (z := 0) (off := 1) rfl rfl Tryd.underlying133 rfl (by kernel_rfl) rfl) ?_
        refine g_v (.free rfl) rfl rfl (qt_loadB (n := 8) rfl rfl Tryd.underlying2 rfl rfl rfl) ?_
        refine g_v (.free rfl) rfl rfl (qt_eql rfl rfl rfl) ?_
        refine g_nil ?_
        refine gk_then (hK35 _ _ ?_)
        refine gc_cond rfl (fun hc1 => ?_) (fun hc1 => ?_)
        · try simp only [decide_eq_true_eq, decide_eq_false_iff_not, Bool.not_eq_true', Bool.not_eq_false', Bool.not_eq_eq_eq_not, Bool.not_true, Bool.not_false, ne_eq, Decidable.not_not, Classical.not_not] at hc1
          refine gc_region ?_
          refine g_v (.free rfl) rfl rfl (qt_loadB (n := 10) rfl rfl Tryd.underlying2 rfl rfl rfl) ?_
          refine g_q (.free rfl) rfl rfl (qt_call rfl Tryd.func88 rfl (by decide) rfl (fun w M => only_any w _ (by omega) (by omega))) ?_
          refine g_v (.free rfl) rfl rfl (qt_assign rfl rfl) ?_
          refine g_nil ?_
          refine gk_then (hK34 _ _ ?_)
          refine gc_seqD fun K36 hK36 => ?_
          refine gc_region ?_
          refine g_v (.free rfl) rfl rfl (qt_move rfl rfl) ?_
          refine g_op (.free rfl) fun K38 hK38 => ?_
          refine go_callNum rfl rfl rfl Tryd.func91 rfl (by decide) rfl (fun w M => numbers_any w _) ?_
          intro B37
          refine hK38 _ _ ?_
          refine g_nil ?_
          refine gk_then (hK36 _ _ ?_)
          refine gc_block ?_
          try simp only [List.nil_append, List.cons_append, List.append_assoc, List.set_cons_succ, List.set_cons_zero]
          refine gc_rangeN (α := Int) (σ := (List Nat)) 10 rfl rfl Tryd.func118 rfl (by decide) rfl (num_seq hT (by first | exact only_lt _ | exact atW_lt hsw _)) (fun s : (List Nat) => (fun (fs2 : List Nat) => ([(4, ownMI (.slice (some ⟨Bm, 0, none⟩) c.s.length c.s.length) c.s.length fs2)] : List (Nat × Itm))) s) (fun (pre : List Int) => (fun s : (List Nat) => (fun (fs2 : List Nat) => Tst c ss sq c.s.length k q p (accK (sq (k : Int) p) pre) fs2) s)) (fun (c : Code) (pre : List Int) => (fun s : (List Nat) => (fun (fs2 : List Nat) => False) s)) fs1 (tst_start hT1 hnp p0) rfl rfl rfl ?_ ?_ ?_ ?_
          · rintro l39 r39 js39 pre z fs2 hinv hpre Ka39 Kb39 hKp39 hKa39 hKn39 hKr39 hKe39
            simp only [updL, List.foldl_cons, List.foldl_nil, List.take_succ_cons, List.take_zero, List.drop_succ_cons, List.drop_zero, List.set_cons_succ, List.set_cons_zero, List.cons_append, List.nil_append] at hinv hKn39 hKr39 hKe39 ⊢
            have hT2 := hinv
            rw [map_id'] at hpre
            have hz : 0 ≤ z ∧ z < L := by first | exact only_in p0 p1 pL (pre_mem hpre) | exact ⟨(bits40 (atW_F hs _) (pre_mem hpre)).1, hL40 _ (atW_mem (by omega) (by omega)) z (pre_mem hpre)⟩
            have z0 := hz.1; have z1 := hz.2
            refine gc_region ?_
            refine g_v (.free rfl) rfl rfl (qt_assign rfl rfl) ?_
            refine g_nil ?_
            try simp only [List.nil_append, List.cons_append, List.append_assoc, List.set_cons_succ, List.set_cons_zero]
            refine gk_then (hKa39 _ _ ?_)
            refine gc_block ?_
            refine gc_seqD fun K40 hK40 => ?_
            refine gc_region ?_
            refine g_v (.free rfl) rfl rfl (qt_loadB (n := 3) rfl rfl Tryd.underlying101 rfl rfl rfl) ?_
            refine g_v (.free rfl) rfl rfl (qt_loadB (n := 7) rfl rfl Tryd.underlying2 rfl rfl rfl) ?_
            refine g_v (.free rfl) rfl rfl (qt_loadB (n := 10) rfl rfl Tryd.underlying2 rfl rfl rfl) ?_
            refine g_v (.free rfl) rfl rfl (qt_move rfl rfl) ?_
            refine g_q (.free rfl) rfl rfl (qt_callV rfl rfl rfl (fun w M => hk w M.1 _ _ _ (by omega) (by omega) (by omega) (by omega) (by omega) (by omega))) ?_
            refine g_nil ?_
            refine gk_then (hK40 _ _ ?_)
            refine gc_cond rfl (fun hc2 => ?_) (fun hc2 => ?_)
            · try simp only [decide_eq_true_eq, decide_eq_false_iff_not, Bool.not_eq_true', Bool.not_eq_false', Bool.not_eq_eq_eq_not, Bool.not_true, Bool.not_false, ne_eq, Decidable.not_not, Classical.not_not] at hc2
              try simp only [List.nil_append, List.cons_append, List.append_assoc, List.set_cons_succ, List.set_cons_zero]
              refine ga_start _ (fun w M => mem_erase 5 (M)) ?_
              refine ga_v 0 rfl (by kernel_rfl) (by kernel_rfl) (by kernel_rfl) (.free rfl) rfl rfl (qt_field (z := 0) (off := 5) rfl rfl Tryd.underlying98 rfl (by kernel_rfl) rfl) (fun _ _ _ h => hKp39 _ _ _ _ h) ?_
              refine ga_v 1 rfl (by kernel_rfl) (by kernel_rfl) (by kernel_rfl) (.free rfl) rfl rfl (qt_loadB (n := 5) rfl rfl Tryd.underlying96 rfl rfl rfl) (fun _ _ _ h => hKp39 _ _ _ _ h) ?_
              refine ga_v 2 rfl (by kernel_rfl) (by kernel_rfl) (by kernel_rfl) (.free rfl) rfl rfl (qt_loadB (n := 6) rfl rfl Tryd.underlying2 rfl rfl rfl) (fun _ _ _ h => hKp39 _ _ _ _ h) ?_
              refine ga_v 3 rfl (by kernel_rfl) (by kernel_rfl) (by kernel_rfl) (.free rfl) rfl rfl (qt_loadB (n := 9) rfl rfl Tryd.underlying2 rfl rfl rfl) (fun _ _ _ h => hKp39 _ _ _ _ h) ?_
              refine ga_v 7 rfl (by kernel_rfl) (by kernel_rfl) (by kernel_rfl) (.free rfl) rfl rfl (qt_move rfl rfl) (fun _ _ _ h => hKp39 _ _ _ _ h) ?_
              refine ga_three 4 8 10 (by kernel_rfl) rfl (.free rfl) rfl (.free rfl) rfl (.free rfl) (fun K41 hK41 => ?_) (fun K41 hK41 => ?_) (fun K41 hK41 => ?_)
              · refine go_v rfl rfl (qt_indexM rfl rfl rfl (fun w M => mem_ownM (m := 5) rfl M) (by omega) (by omega)) ?_
                refine hK41 _ _ (fun w M => (mem_erase 5 (mem_take 12 M) :)) ?_
                refine ga_three 5 8 10 (by kernel_rfl) rfl (.free rfl) rfl (.free rfl) rfl (.free rfl) (fun K43 hK43 => ?_) (fun K43 hK43 => ?_) (fun K43 hK43 => ?_)
                · refine go_v rfl rfl (qt_indexA rfl rfl rfl (fun w M => mem_ownM (m := 5) rfl M) (by omega) (by omega) (by omega) (by omega)) ?_
                  refine hK43 _ _ (fun w M => (mem_erase 5 (mem_take 12 M) :)) ?_
                  refine ga_three 6 8 10 (by kernel_rfl) rfl (.free rfl) rfl (.free rfl) rfl (.free rfl) (fun K45 hK45 => ?_) (fun K45 hK45 => ?_) (fun K45 hK45 => ?_)
                  · refine go_v rfl rfl (qt_loadM rfl rfl Tryd.underlying86 rfl (fun w M => mem_ownM (m := 5) rfl M) (by omega) (by omega) (by omega) (by omega)) ?_
                    refine hK45 _ _ (fun w M => (mem_erase 5 (mem_take 12 M) :)) ?_
                    refine ga_two 8 10 (by kernel_rfl) rfl rfl (.free rfl) (.free rfl) (fun K47 hK47 => ?_) (fun K47 hK47 => ?_)
                    · refine go_q rfl rfl (qt_call rfl Tryd.func88 rfl (by decide) rfl (fun w M => only_any w _ (by omega) (by omega))) ?_
                      refine hK47 _ _ (fun w M => (mem_erase 5 (mem_take 12 M) :)) ?_
                      refine ga_v 9 rfl (by kernel_rfl) (by kernel_rfl) (by kernel_rfl) (.free rfl) rfl rfl (qt_orU rfl rfl rfl (by rw [tst_get hT2 (by omega) (by omega) (by omega)]; exact accK_lt _ _) (only_lt _)) (fun _ _ _ h => hKp39 _ _ _ _ h) ?_
                      refine ga_op 10 (by kernel_rfl) rfl (.free rfl) fun K49 hK49 => ?_
                      refine go_v rfl rfl (qt_indexM rfl rfl rfl (fun w M => mem_ownM (m := 5) rfl M) (by omega) (by omega)) ?_
                      refine hK49 _ _ (fun w M => (mem_erase 5 (mem_take 12 M) :)) ?_
                      refine ga_op 11 (by kernel_rfl) rfl (.free rfl) fun K50 hK50 => ?_
                      refine go_v rfl rfl (qt_indexA rfl rfl rfl (fun w M => mem_ownM (m := 5) rfl M) (by omega) (by omega) (by omega) (by omega)) ?_
                      refine hK50 _ _ (fun w M => (mem_erase 5 (mem_take 12 M) :)) ?_
                      refine ga_op 12 (by kernel_rfl) rfl (.free rfl) fun K51 hK51 => ?_
                      refine go_storeM (m := 5) rfl rfl rfl rfl (by kernel_rfl) rfl (by omega) (by omega) (by omega) (by omega) ?_
                      refine hK51 _ _ (fun w M => (mem_erase 5 (mem_take 12 M) :)) ?_
                      refine ga_done (by kernel_rfl) ?_
                      refine gk_block ?_
                      try simp only [List.nil_append, List.cons_append, List.append_assoc, List.set_cons_succ, List.set_cons_zero]
                      refine gk_take 12 ?_
                      refine hKn39 (_) _ ?hi_52
                      case hi_52 => first | exact tst_t hT2 (by omega) p0 p1 (by assumption) | exact tst_f hT2 (by assumption)
                    · refine go_v rfl rfl (qt_indexM rfl rfl rfl (fun w M => mem_ownM (m := 5) rfl M) (by omega) (by omega)) ?_
                      refine hK47 _ _ (fun w M => (mem_erase 5 (mem_take 12 M) :)) ?_
                      refine ga_op 8 (by kernel_rfl) rfl (.free rfl) fun K54 hK54 => ?_
                      refine go_q rfl rfl (qt_call rfl Tryd.func88 rfl (by decide) rfl (fun w M => only_any w _ (by omega) (by omega))) ?_
                      refine hK54 _ _ (fun w M => (mem_erase 5 (mem_take 12 M) :)) ?_
                      refine ga_v 9 rfl (by kernel_rfl) (by kernel_rfl) (by kernel_rfl) (.free rfl) rfl rfl (qt_orU rfl rfl rfl (by rw [tst_get hT2 (by omega) (by omega) (by omega)]; exact accK_lt _ _) (only_lt _)) (fun _ _ _ h => hKp39 _ _ _ _ h) ?_
                      refine ga_op 11 (by kernel_rfl) rfl (.free rfl) fun K55 hK55 => ?_
                      refine go_v rfl rfl (qt_indexA rfl rfl rfl (fun w M => mem_ownM (m := 5) rfl M) (by omega) (by omega) (by omega) (by omega)) ?_
                      refine hK55 _ _ (fun w M => (mem_erase 5 (mem_take 12 M) :)) ?_
                      refine ga_op 12 (by kernel_rfl) rfl (.free rfl) fun K56 hK56 => ?_
                      refine go_storeM (m := 5) rfl rfl rfl rfl (by kernel_rfl) rfl (by omega) (by omega) (by omega) (by omega) ?_
                      refine hK56 _ _ (fun w M => (mem_erase 5 (mem_take 12 M) :)) ?_
                      refine ga_done (by kernel_rfl) ?_
                      refine gk_block ?_
                      try simp only [List.nil_append, List.cons_append, List.append_assoc, List.set_cons_succ, List.set_cons_zero]
                      refine gk_take 12 ?_
                      refine hKn39 (_) _ ?hi_57
                      case hi_57 => first | exact tst_t hT2 (by omega) p0 p1 (by assumption) | exact tst_f hT2 (by assumption)
                  · refine go_q rfl rfl (qt_call rfl Tryd.func88 rfl (by decide) rfl (fun w M => only_any w _ (by omega) (by omega))) ?_
                    refine hK45 _ _ (fun w M => (mem_erase 5 (mem_take 12 M) :)) ?_
                    refine ga_two 6 10 (by kernel_rfl) rfl rfl (.free rfl) (.free rfl) (fun K59 hK59 => ?_) (fun K59 hK59 => ?_)
                    · refine go_v rfl rfl (qt_loadM rfl rfl Tryd.underlying86 rfl (fun w M => mem_ownM (m := 5) rfl M) (by omega) (by omega) (by omega) (by omega)) ?_
                      refine hK59 _ _ (fun w M => (mem_erase 5 (mem_take 12 M) :)) ?_
                      refine ga_v 9 rfl (by kernel_rfl) (by kernel_rfl) (by kernel_rfl) (.free rfl) rfl rfl (qt_orU rfl rfl rfl (by rw [tst_get hT2 (by omega) (by omega) (by omega)]; exact accK_lt _ _) (only_lt _)) (fun _ _ _ h => hKp39 _ _ _ _ h) ?_
                      refine ga_op 10 (by kernel_rfl) rfl (.free rfl) fun K61 hK61 => ?_
                      refine go_v rfl rfl (qt_indexM rfl rfl rfl (fun w M => mem_ownM (m := 5) rfl M) (by omega) (by omega)) ?_
                      refine hK61 _ _ (fun w M => (mem_erase 5 (mem_take 12 M) :)) ?_
                      refine ga_op 11 (by kernel_rfl) rfl (.free rfl) fun K62 hK62 => ?_
                      refine go_v rfl rfl (qt_indexA rfl rfl rfl (fun w M => mem_ownM (m := 5) rfl M) (by omega) (by omega) (by omega) (by omega)) ?_
                      refine hK62 _ _ (fun w M => (mem_erase 5 (mem_take 12 M) :)) ?_
                      refine ga_op 12 (by kernel_rfl) rfl (.free rfl) fun K63 hK63 => ?_
                      refine go_storeM (m := 5) rfl rfl rfl rfl (by kernel_rfl) rfl (by omega) (by omega) (by omega) (by omega) ?_
                      refine hK63 _ _ (fun w M => (mem_erase 5 (mem_take 12 M) :)) ?_
                      refine ga_done (by kernel_rfl) ?_
                      refine gk_block ?_
                      try simp only [List.nil_append, List.cons_append, List.append_assoc, List.set_cons_succ, List.set_cons_zero]
                      refine gk_take 12 ?_
                      refine hKn39 (_) _ ?hi_64
                      case hi_64 => first | exact tst_t hT2 (by omega) p0 p1 (by assumption) | exact tst_f hT2 (by assumption)
                    · refine go_v rfl rfl (qt_indexM rfl rfl rfl (fun w M => mem_ownM (m := 5) rfl M) (by omega) (by omega)) ?_
                      refine hK59 _ _ (fun w M => (mem_erase 5 (mem_take 12 M) :)) ?_
                      refine ga_op 6 (by kernel_rfl) rfl (.free rfl) fun K66 hK66 => ?_
                      refine go_v rfl rfl (qt_loadM rfl rfl Tryd.underlying86 rfl (fun w M => mem_ownM (m := 5) rfl M) (by omega) (by omega) (by omega) (by omega)) ?_
                      refine hK66 _ _ (fun w M => (mem_erase 5 (mem_take 12 M) :)) ?_
                      refine ga_v 9 rfl (by kernel_rfl) (by kernel_rfl) (by kernel_rfl) (.free rfl) rfl rfl (qt_orU rfl rfl rfl (by rw [tst_get hT2 (by omega) (by omega) (by omega)]; exact accK_lt _ _) (only_lt _)) (fun _ _ _ h => hKp39 _ _ _ _ h) ?_
                      refine ga_op 11 (by kernel_rfl) rfl (.free rfl) fun K67 hK67 => ?_
                      refine go_v rfl rfl (qt_indexA rfl rfl rfl (fun w M => mem_ownM (m := 5) rfl M) (by omega) (by omega) (by omega) (by omega)) ?_
                      refine hK67 _ _ (fun w M => (mem_erase 5 (mem_take 12 M) :)) ?_
                      refine ga_op 12 (by kernel_rfl) rfl (.free rfl) fun K68 hK68 => ?_
                      refine go_storeM (m := 5) rfl rfl rfl rfl (by kernel_rfl) rfl (by omega) (by omega) (by omega) (by omega) ?_
                      refine hK68 _ _ (fun w M => (mem_erase 5 (mem_take 12 M) :)) ?_
                      refine ga_done (by kernel_rfl) ?_
                      refine gk_block ?_
                      try simp only [List.nil_append, List.cons_append, List.append_assoc, List.set_cons_succ, List.set_cons_zero]
                      refine gk_take 12 ?_
                      refine hKn39 (_) _ ?hi_69
                      case hi_69 => first | exact tst_t hT2 (by omega) p0 p1 (by assumption) | exact tst_f hT2 (by assumption)
                  · refine go_v rfl rfl (qt_indexM rfl rfl rfl (fun w M => mem_ownM (m := 5) rfl M) (by omega) (by omega)) ?_
                    refine hK45 _ _ (fun w M => (mem_erase 5 (mem_take 12 M) :)) ?_
                    refine ga_two 6 8 (by kernel_rfl) rfl rfl (.free rfl) (.free rfl) (fun K71 hK71 => ?_) (fun K71 hK71 => ?_)
                    · refine go_v rfl rfl (qt_loadM rfl rfl Tryd.underlying86 rfl (fun w M => mem_ownM (m := 5) rfl M) (by omega) (by omega) (by omega) (by omega)) ?_
                      refine hK71 _ _ (fun w M => (mem_erase 5 (mem_take 12 M) :)) ?_
                      refine ga_op 8 (by kernel_rfl) rfl (.free rfl) fun K73 hK73 => ?_
                      refine go_q rfl rfl (qt_call rfl Tryd.func88 rfl (by decide) rfl (fun w M => only_any w _ (by omega) (by omega))) ?_
                      refine hK73 _ _ (fun w M => (mem_erase 5 (mem_take 12 M) :)) ?_
                      refine ga_v 9 rfl (by kernel_rfl) (by kernel_rfl) (by kernel_rfl) (.free rfl) rfl rfl (qt_orU rfl rfl rfl (by rw [tst_get hT2 (by omega) (by omega) (by omega)]; exact accK_lt _ _) (only_lt _)) (fun _ _ _ h => hKp39 _ _ _ _ h) ?_
                      refine ga_op 11 (by kernel_rfl) rfl (.free rfl) fun K74 hK74 => ?_
                      refine go_v rfl rfl (qt_indexA rfl rfl rfl (fun w M => mem_ownM (m := 5) rfl M) (by omega) (by omega) (by omega) (by omega)) ?_
                      refine hK74 _ _ (fun w M => (mem_erase 5 (mem_take 12 M) :)) ?_
                      refine ga_op 12 (by kernel_rfl) rfl (.free rfl) fun K75 hK75 => ?_
                      refine go_storeM (m := 5) rfl rfl rfl rfl (by kernel_rfl) rfl (by omega) (by omega) (by omega) (by omega) ?_
                      refine hK75 _ _ (fun w M => (mem_erase 5 (mem_take 12 M) :)) ?_
                      refine ga_done (by kernel_rfl) ?_
                      refine gk_block ?_
                      try simp only [List.nil_append, List.cons_append, List.append_assoc, List.set_cons_succ, List.set_cons_zero]
                      refine gk_take 12 ?_
                      refine hKn39 (_) _ ?hi_76
                      case hi_76 => first | exact tst_t hT2 (by omega) p0 p1 (by assumption) | exact tst_f hT2 (by assumption)
                    · refine go_q rfl rfl (qt_call rfl Tryd.func88 rfl (by decide) rfl (fun w M => only_any w _ (by omega) (by omega))) ?_
                      refine hK71 _ _ (fun w M => (mem_erase 5 (mem_take 12 M) :)) ?_
                      refine ga_op 6 (by kernel_rfl) rfl (.free rfl) fun K78 hK78 => ?_
                      refine go_v rfl rfl (qt_loadM rfl rfl Tryd.underlying86 rfl (fun w M => mem_ownM (m := 5) rfl M) (by omega) (by omega) (by omega) (by omega)) ?_
                      refine hK78 _ _ (fun w M => (mem_erase 5 (mem_take 12 M) :)) ?_
                      refine ga_v 9 rfl (by kernel_rfl) (by kernel_rfl) (by kernel_rfl) (.free rfl) rfl rfl (qt_orU rfl rfl rfl (by rw [tst_get hT2 (by omega) (by omega) (by omega)]; exact accK_lt _ _) (only_lt _)) (fun _ _ _ h => hKp39 _ _ _ _ h) ?_
                      refine ga_op 11 (by kernel_rfl) rfl (.free rfl) fun K79 hK79 => ?_
                      refine go_v rfl rfl (qt_indexA rfl rfl rfl (fun w M => mem_ownM (m := 5) rfl M) (by omega) (by omega) (by omega) (by omega)) ?_
                      refine hK79 _ _ (fun w M => (mem_erase 5 (mem_take 12 M) :)) ?_
                      refine ga_op 12 (by kernel_rfl) rfl (.free rfl) fun K80 hK80 => ?_
                      refine go_storeM (m := 5) rfl rfl rfl rfl (by kernel_rfl) rfl (by omega) (by omega) (by omega) (by omega) ?_
                      refine hK80 _ _ (fun w M => (mem_erase 5 (mem_take 12 M) :)) ?_
                      refine ga_done (by kernel_rfl) ?_
                      refine gk_block ?_
                      try simp only [List.nil_append, List.cons_append, List.append_assoc, List.set_cons_succ, List.set_cons_zero]
                      refine gk_take 12 ?_
                      refine hKn39 (_) _ ?hi_81
                      case hi_81 => first | exact tst_t hT2 (by omega) p0 p1 (by assumption) | exact tst_f hT2 (by assumption)
                · refine go_q rfl rfl (qt_call rfl Tryd.func88 rfl (by decide) rfl (fun w M => only_any w _ (by omega) (by omega))) ?_
                  refine hK43 _ _ (fun w M => (mem_erase 5 (mem_take 12 M) :)) ?_
                  refine ga_two 5 10 (by kernel_rfl) rfl rfl (.free rfl) (.free rfl) (fun K83 hK83 => ?_) (fun K83 hK83 => ?_)
                  · refine go_v rfl rfl (qt_indexA rfl rfl rfl (fun w M => mem_ownM (m := 5) rfl M) (by omega) (by omega) (by omega) (by omega)) ?_
                    refine hK83 _ _ (fun w M => (mem_erase 5 (mem_take 12 M) :)) ?_
                    refine ga_two 6 10 (by kernel_rfl) rfl rfl (.free rfl) (.free rfl) (fun K85 hK85 => ?_) (fun K85 hK85 => ?_)
                    · refine go_v rfl rfl (qt_loadM rfl rfl Tryd.underlying86 rfl (fun w M => mem_ownM (m := 5) rfl M) (by omega) (by omega) (by omega) (by omega)) ?_
                      refine hK85 _ _ (fun w M => (mem_erase 5 (mem_take 12 M) :)) ?_
                      refine ga_v 9 rfl (by kernel_rfl) (by kernel_rfl) (by kernel_rfl) (.free rfl) rfl rfl (qt_orU rfl rfl rfl (by rw [tst_get hT2 (by omega) (by omega) (by omega)]; exact accK_lt _ _) (only_lt _)) (fun _ _ _ h => hKp39 _ _ _ _ h) ?_
                      refine ga_op 10 (by kernel_rfl) rfl (.free rfl) fun K87 hK87 => ?_
                      refine go_v rfl rfl (qt_indexM rfl rfl rfl (fun w M => mem_ownM (m := 5) rfl M) (by omega) (by omega)) ?_
                      refine hK87 _ _ (fun w M => (mem_erase 5 (mem_take 12 M) :)) ?_
                      refine ga_op 11 (by kernel_rfl) rfl (.free rfl) fun K88 hK88 => ?_
                      refine go_v rfl rfl (qt_indexA rfl rfl rfl (fun w M => mem_ownM (m := 5) rfl M) (by omega) (by omega) (by omega) (by omega)) ?_
                      refine hK88 _ _ (fun w M => (mem_erase 5 (mem_take 12 M) :)) ?_
                      refine ga_op 12 (by kernel_rfl) rfl (.free rfl) fun K89 hK89 => ?_
                      refine go_storeM (m := 5) rfl rfl rfl rfl (by kernel_rfl) rfl (by omega) (by omega) (by omega) (by omega) ?_
                      refine hK89 _ _ (fun w M => (mem_erase 5 (mem_take 12 M) :)) ?_
                      refine ga_done (by kernel_rfl) ?_
                      refine gk_block ?_
                      try simp only [List.nil_append, List.cons_append, List.append_assoc, List.set_cons_succ, List.set_cons_zero]
                      refine gk_take 12 ?_
                      refine hKn39 (_) _ ?hi_90
                      case hi_90 => first | exact tst_t hT2 (by omega) p0 p1 (by assumption) | exact tst_f hT2 (by assumption)
                    · refine go_v rfl rfl (qt_indexM rfl rfl rfl (fun w M => mem_ownM (m := 5) rfl M) (by omega) (by omega)) ?_
                      refine hK85 _ _ (fun w M => (mem_erase 5 (mem_take 12 M) :)) ?_
                      refine ga_op 6 (by kernel_rfl) rfl (.free rfl) fun K92 hK92 => ?_
                      refine go_v rfl rfl (qt_loadM rfl rfl Tryd.underlying86 rfl (fun w M => mem_ownM (m := 5) rfl M) (by omega) (by omega) (by omega) (by omega)) ?_
                      refine hK92 _ _ (fun w M => (mem_erase 5 (mem_take 12 M) :)) ?_
                      refine ga_v 9 rfl (by kernel_rfl) (by kernel_rfl) (by kernel_rfl) (.free rfl) rfl rfl (qt_orU rfl rfl rfl (by rw [tst_get hT2 (by omega) (by omega) (by omega)]; exact accK_lt _ _) (only_lt _)) (fun _ _ _ h => hKp39 _ _ _ _ h) ?_
                      refine ga_op 11 (by kernel_rfl) rfl (.free rfl) fun K93 hK93 => ?_
                      refine go_v rfl rfl (qt_indexA rfl rfl rfl (fun w M => mem_ownM (m := 5) rfl M) (by omega) (by omega) (by omega) (by omega)) ?_
                      refine hK93 _ _ (fun w M => (mem_erase 5 (mem_take 12 M) :)) ?_
                      refine ga_op 12 (by kernel_rfl) rfl (.free rfl) fun K94 hK94 => ?_
                      refine go_storeM (m := 5) rfl rfl rfl rfl (by kernel_rfl) rfl (by omega) (by omega) (by omega) (by omega) ?_
                      refine hK94 _ _ (fun w M => (mem_erase 5 (mem_take 12 M) :)) ?_
                      refine ga_done (by kernel_rfl) ?_
                      refine gk_block ?_
                      try simp only [List.nil_append, List.cons_append, List.append_assoc, List.set_cons_succ, List.set_cons_zero]
                      refine gk_take 12 ?_
                      refine hKn39 (_) _ ?hi_95
                      case hi_95 => first | exact tst_t hT2 (by omega) p0 p1 (by assumption) | exact tst_f hT2 (by assumption)
                  · refine go_v rfl rfl (qt_indexM rfl rfl rfl (fun w M => mem_ownM (m := 5) rfl M) (by omega) (by omega)) ?_
                    refine hK83 _ _ (fun w M => (mem_erase 5 (mem_take 12 M) :)) ?_
                    refine ga_op 5 (by kernel_rfl) rfl (.free rfl) fun K97 hK97 => ?_
                    refine go_v rfl rfl (qt_indexA rfl rfl rfl (fun w M => mem_ownM (m := 5) rfl M) (by omega) (by omega) (by omega) (by omega)) ?_
                    refine hK97 _ _ (fun w M => (mem_erase 5 (mem_take 12 M) :)) ?_
                    refine ga_op 6 (by kernel_rfl) rfl (.free rfl) fun K98 hK98 => ?_
                    refine go_v rfl rfl (qt_loadM rfl rfl Tryd.underlying86 rfl (fun w M => mem_ownM (m := 5) rfl M) (by omega) (by omega) (by omega) (by omega)) ?_
                    refine hK98 _ _ (fun w M => (mem_erase 5 (mem_take 12 M) :)) ?_
                    refine ga_v 9 rfl (by kernel_rfl) (by kernel_rfl) (by kernel_rfl) (.free rfl) rfl rfl (qt_orU rfl rfl rfl (by rw [tst_get hT2 (by omega) (by omega) (by omega)]; exact accK_lt _ _) (only_lt _)) (fun _ _ _ h => hKp39 _ _ _ _ h) ?_
                    refine ga_op 11 (by kernel_rfl) rfl (.free rfl) fun K99 hK99 => ?_
                    refine go_v rfl rfl (qt_indexA rfl rfl rfl (fun w M => mem_ownM (m := 5) rfl M) (by omega) (by omega) (by omega) (by omega)) ?_
                    refine hK99 _ _ (fun w M => (mem_erase 5 (mem_take 12 M) :)) ?_
                    refine ga_op 12 (by kernel_rfl) rfl (.free rfl) fun K100 hK100 => ?_
                    refine go_storeM (m := 5) rfl rfl rfl rfl (by kernel_rfl) rfl (by omega) (by omega) (by omega) (by omega) ?_
                    refine hK100 _ _ (fun w M => (mem_erase 5 (mem_take 12 M) :)) ?_
                    refine ga_done (by kernel_rfl) ?_
                    refine gk_block ?_
                    try simp only [List.nil_append, List.cons_append, List.append_assoc, List.set_cons_succ, List.set_cons_zero]
                    refine gk_take 12 ?_
                    refine hKn39 (_) _ ?hi_101
                    case hi_101 => first | exact tst_t hT2 (by omega) p0 p1 (by assumption) | exact tst_f hT2 (by assumption)
                · refine go_v rfl rfl (qt_indexM rfl rfl rfl (fun w M => mem_ownM (m := 5) rfl M) (by omega) (by omega)) ?_
                  refine hK43 _ _ (fun w M => (mem_erase 5 (mem_take 12 M) :)) ?_
                  refine ga_two 5 8 (by kernel_rfl) rfl rfl (.free rfl) (.free rfl) (fun K103 hK103 => ?_) (fun K103 hK103 => ?_)
                  · refine go_v rfl rfl (qt_indexA rfl rfl rfl (fun w M => mem_ownM (m := 5) rfl M) (by omega) (by omega) (by omega) (by omega)) ?_
                    refine hK103 _ _ (fun w M => (mem_erase 5 (mem_take 12 M) :)) ?_
                    refine ga_two 6 8 (by kernel_rfl) rfl rfl (.free rfl) (.free rfl) (fun K105 hK105 => ?_) (fun K105 hK105 => ?_)
                    · refine go_v rfl rfl (qt_loadM rfl rfl Tryd.underlying86 rfl (fun w M => mem_ownM (m := 5) rfl M) (by omega) (by omega) (by omega) (by omega)) ?_
                      refine hK105 _ _ (fun w M => (mem_erase 5 (mem_take 12 M) :)) ?_
                      refine ga_op 8 (by kernel_rfl) rfl (.free rfl) fun K107 hK107 => ?_
                      refine go_q rfl rfl (qt_call rfl Tryd.func88 rfl (by decide) rfl (fun w M => only_any w _ (by omega) (by omega))) ?_
                      refine hK107 _ _ (fun w M => (mem_erase 5 (mem_take 12 M) :)) ?_
                      refine ga_v 9 rfl (by kernel_rfl) (by kernel_rfl) (by kernel_rfl) (.free rfl) rfl rfl (qt_orU rfl rfl rfl (by rw [tst_get hT2 (by omega) (by omega) (by omega)]; exact accK_lt _ _) (only_lt _)) (fun _ _ _ h => hKp39 _ _ _ _ h) ?_
                      refine ga_op 11 (by kernel_rfl) rfl (.free rfl) fun K108 hK108 => ?_
                      refine go_v rfl rfl (qt_indexA rfl rfl rfl (fun w M => mem_ownM (m := 5) rfl M) (by omega) (by omega) (by omega) (by omega)) ?_
                      refine hK108 _ _ (fun w M => (mem_erase 5 (mem_take 12 M) :)) ?_
                      refine ga_op 12 (by kernel_rfl) rfl (.free rfl) fun K109 hK109 => ?_
                      refine go_storeM (m := 5) rfl rfl rfl rfl (by kernel_rfl) rfl (by omega) (by omega) (by omega) (by omega) ?_
                      refine hK109 _ _ (fun w M => (mem_erase 5 (mem_take 12 M) :)) ?_
                      refine ga_done (by kernel_rfl) ?_
                      refine gk_block ?_
                      try simp only [List.nil_append, List.cons_append, List.append_assoc, List.set_cons_succ, List.set_cons_zero]
                      refine gk_take 12 ?_
                      refine hKn39 (_) _ ?hi_110
                      case hi_110 => first | exact tst_t hT2 (by omega) p0 p1 (by assumption) | exact tst_f hT2 (by assumption)
                    · refine go_q rfl rfl (qt_call rfl Tryd.func88 rfl (by decide) rfl (fun w M => only_any w _ (by omega) (by omega))) ?_
                      refine hK105 _ _ (fun w M => (mem_erase 5 (mem_take 12 M) :)) ?_
                      refine ga_op 6 (by kernel_rfl) rfl (.free rfl) fun K112 hK112 => ?_
                      refine go_v rfl rfl (qt_loadM rfl rfl Tryd.underlying86 rfl (fun w M => mem_ownM (m := 5) rfl M) (by omega) (by omega) (by omega) (by omega)) ?_
                      refine hK112 _ _ (fun w M => (mem_erase 5 (mem_take 12 M) :)) ?_
                      refine ga_v 9 rfl (by kernel_rfl) (by kernel_rfl) (by kernel_rfl) (.free rfl) rfl rfl (qt_orU rfl rfl rfl (by rw [tst_get hT2 (by omega) (by omega) (by omega)]; exact accK_lt _ _) (only_lt _)) (fun _ _ _ h => hKp39 _ _ _ _ h) ?_
                      refine ga_op 11 (by kernel_rfl) rfl (.free rfl) fun K113 hK113 => ?_
                      refine go_v rfl rfl (qt_indexA rfl rfl rfl (fun w M => mem_ownM (m := 5) rfl M) (by omega) (by omega) (by omega) (by omega)) ?_
                      refine hK113 _ _ (fun w M => (mem_erase 5 (mem_take 12 M) :)) ?_
                      refine ga_op 12 (by kernel_rfl) rfl (.free rfl) fun K114 hK114 => ?_
                      refine go_storeM (m := 5) rfl rfl rfl rfl (by kernel_rfl) rfl (by omega) (by omega) (by omega) (by omega) ?_
                      refine hK114 _ _ (fun w M => (mem_erase 5 (mem_take 12 M) :)) ?_
                      refine ga_done (by kernel_rfl) ?_
                      refine gk_block ?_
                      try simp only [List.nil_append, List.cons_append, List.append_assoc, List.set_cons_succ, List.set_cons_zero]
                      refine gk_take 12 ?_
                      refine hKn39 (_) _ ?hi_115
                      case hi_115 => first | exact tst_t hT2 (by omega) p0 p1 (by assumption) | exact tst_f hT2 (by assumption)
                  · refine go_q rfl rfl (qt_call rfl Tryd.func88 rfl (by decide) rfl (fun w M => only_any w _ (by omega) (by omega))) ?_
                    refine hK103 _ _ (fun w M => (mem_erase 5 (mem_take 12 M) :)) ?_
                    refine ga_op 5 (by kernel_rfl) rfl (.free rfl) fun K117 hK117 => ?_
                    refine go_v rfl rfl (qt_indexA rfl rfl rfl (fun w M => mem_ownM (m := 5) rfl M) (by omega) (by omega) (by omega) (by omega)) ?_
                    refine hK117 _ _ (fun w M => (mem_erase 5 (mem_take 12 M) :)) ?_
                    refine ga_op 6 (by kernel_rfl) rfl (.free rfl) fun K118 hK118 => ?_
                    refine go_v rfl rfl (qt_loadM rfl rfl Tryd.underlying86 rfl (fun w M => mem_ownM (m := 5) rfl M) (by omega) (by omega) (by omega) (by omega)) ?_
                    refine hK118 _ _ (fun w M => (mem_erase 5 (mem_take 12 M) :)) ?_
                    refine ga_v 9 rfl (by kernel_rfl) (by kernel_rfl) (by kernel_rfl) (.free rfl) rfl rfl (qt_orU rfl rfl rfl (by rw [tst_get hT2 (by omega) (by omega) (by omega)]; exact accK_lt _ _) (only_lt _)) (fun _ _ _ h => hKp39 _ _ _ _ h) ?_
                    refine ga_op 11 (by kernel_rfl) rfl (.free rfl) fun K119 hK119 => ?_
                    refine go_v rfl rfl (qt_indexA rfl rfl rfl (fun w M => mem_ownM (m := 5) rfl M) (by omega) (by omega) (by omega) (by omega)) ?_
                    refine hK119 _ _ (fun w M => (mem_erase 5 (mem_take 12 M) :)) ?_
                    refine ga_op 12 (by kernel_rfl) rfl (.free rfl) fun K120 hK120 => ?_
                    refine go_storeM (m := 5) rfl rfl rfl rfl (by kernel_rfl) rfl (by omega) (by omega) (by omega) (by omega) ?_
                    refine hK120 _ _ (fun w M => (mem_erase 5 (mem_take 12 M) :)) ?_
                    refine ga_done (by kernel_rfl) ?_
                    refine gk_block ?_
                    try simp only [List.nil_append, List.cons_append, List.append_assoc, List.set_cons_succ, List.set_cons_zero]
                    refine gk_take 12 ?_
                    refine hKn39 (_) _ ?hi_121
                    case hi_121 => first | exact tst_t hT2 (by omega) p0 p1 (by assumption) | exact tst_f hT2 (by assumption)
              · refine go_q rfl rfl (qt_call rfl Tryd.func88 rfl (by decide) rfl (fun w M => only_any w _ (by omega) (by omega))) ?_
                refine hK41 _ _ (fun w M => (mem_erase 5 (mem_take 12 M) :)) ?_
                refine ga_two 4 10 (by kernel_rfl) rfl rfl (.free rfl) (.free rfl) (fun K123 hK123 => ?_) (fun K123 hK123 => ?_)
                · refine go_v rfl rfl (qt_indexM rfl rfl rfl (fun w M => mem_ownM (m := 5) rfl M) (by omega) (by omega)) ?_
                  refine hK123 _ _ (fun w M => (mem_erase 5 (mem_take 12 M) :)) ?_
                  refine ga_two 5 10 (by kernel_rfl) rfl rfl (.free rfl) (.free rfl) (fun K125 hK125 => ?_) (fun K125 hK125 => ?_)
                  · refine go_v rfl rfl (qt_indexA rfl rfl rfl (fun w M => mem_ownM (m := 5) rfl M) (by omega) (by omega) (by omega) (by omega)) ?_
                    refine hK125 _ _ (fun w M => (mem_erase 5 (mem_take 12 M) :)) ?_
                    refine ga_two 6 10 (by kernel_rfl) rfl rfl (.free rfl) (.free rfl) (fun K127 hK127 => ?_) (fun K127 hK127 => ?_)
                    · refine go_v rfl rfl (qt_loadM rfl rfl Tryd.underlying86 rfl (fun w M => mem_ownM (m := 5) rfl M) (by omega) (by omega) (by omega) (by omega)) ?_
                      refine hK127 _ _ (fun w M => (mem_erase 5 (mem_take 12 M) :)) ?_
                      refine ga_v 9 rfl (by kernel_rfl) (by kernel_rfl) (by kernel_rfl) (.free rfl) rfl rfl (qt_orU rfl rfl rfl (by rw [tst_get hT2 (by omega) (by omega) (by omega)]; exact accK_lt _ _) (only_lt _)) (fun _ _ _ h => hKp39 _ _ _ _ h) ?_
                      refine ga_op 10 (by kernel_rfl) rfl (.free rfl) fun K129 hK129 => ?_
                      refine go_v rfl rfl (qt_indexM rfl rfl rfl (fun w M => mem_ownM (m := 5) rfl M) (by omega) (by omega)) ?_
                      refine hK129 _ _ (fun w M => (mem_erase 5 (mem_take 12 M) :)) ?_
                      refine ga_op 11 (by kernel_rfl) rfl (.free rfl) fun K130 hK130 => ?_
                      refine go_v rfl rfl (qt_indexA rfl rfl rfl (fun w M => mem_ownM (m := 5) rfl M) (by omega) (by omega) (by omega) (by omega)) ?_
                      refine hK130 _ _ (fun w M => (mem_erase 5 (mem_take 12 M) :)) ?_
                      refine ga_op 12 (by kernel_rfl) rfl (.free rfl) fun K131 hK131 => ?_
                      refine go_storeM (m := 5) rfl rfl rfl rfl (by kernel_rfl) rfl (by omega) (by omega) (by omega) (by omega) ?_
                      refine hK131 _ _ (fun w M => (mem_erase 5 (mem_take 12 M) :)) ?_
                      refine ga_done (by kernel_rfl) ?_
                      refine gk_block ?_
                      try simp only [List.nil_append, List.cons_append, List.append_assoc, List.set_cons_succ, List.set_cons_zero]
                      refine gk_take 12 ?_
                      refine hKn39 (_) _ ?hi_132
                      case hi_132 => first | exact tst_t hT2 (by omega) p0 p1 (by assumption) | exact tst_f hT2 (by assumption)
                    · refine go_v rfl rfl (qt_indexM rfl rfl rfl (fun w M => mem_ownM (m := 5) rfl M) (by omega) (by omega)) ?_
                      refine hK127 _ _ (fun w M => (mem_erase 5 (mem_take 12 M) :)) ?_
                      refine ga_op 6 (by kernel_rfl) rfl (.free rfl) fun K134 hK134 => ?_
                      refine go_v rfl rfl (qt_loadM rfl rfl Tryd.underlying86 rfl (fun w M => mem_ownM (m := 5) rfl M) (by omega) (by omega) (by omega) (by omega)) ?_
                      refine hK134 _ _ (fun w M => (mem_erase 5 (mem_take 12 M) :)) ?_
                      refine ga_v 9 rfl (by kernel_rfl) (by kernel_rfl) (by kernel_rfl) (.free rfl) rfl rfl (qt_orU rfl rfl rfl (by rw [tst_get hT2 (by omega) (by omega) (by omega)]; exact accK_lt _ _) (only_lt _)) (fun _ _ _ h => hKp39 _ _ _ _ h) ?_
                      refine ga_op 11 (by kernel_rfl) rfl (.free rfl) fun K135 hK135 => ?_
                      refine go_v rfl rfl (qt_indexA rfl rfl rfl (fun w M => mem_ownM (m := 5) rfl M) (by omega) (by omega) (by omega) (by omega)) ?_
                      refine hK135 _ _ (fun w M => (mem_erase 5 (mem_take 12 M) :)) ?_
                      refine ga_op 12 (by kernel_rfl) rfl (.free rfl) fun K136 hK136 => ?_
                      refine go_storeM (m := 5) rfl rfl rfl rfl (by kernel_rfl) rfl (by omega) (by omega) (by omega) (by omega) ?_
                      refine hK136 _ _ (fun w M => (mem_erase 5 (mem_take 12 M) :)) ?_
                      refine ga_done (by kernel_rfl) ?_
                      refine gk_block ?_
                      try simp only [List.nil_append, List.cons_append, List.append_assoc, List.set_cons_succ, List.set_cons_zero]
                      refine gk_take 12 ?_
                      refine hKn39 (_) _ ?hi_137
                      case hi_137 => first | exact tst_t hT2 (by omega) p0 p1 (by assumption) | exact tst_f hT2 (by assumption)
                  · refine go_v rfl rfl (qt_indexM rfl rfl rfl (fun w M => mem_ownM (m := 5) rfl M) (by omega) (by omega)) ?_
                    refine hK125 _ _ (fun w M => (mem_erase 5 (mem_take 12 M) :)) ?_
                    refine ga_op 5 (by kernel_rfl) rfl (.free rfl) fun K139 hK139 => ?_
                    refine go_v rfl rfl (qt_indexA rfl rfl rfl (fun w M => mem_ownM (m := 5) rfl M) (by omega) (by omega) (by omega) (by omega)) ?_
                    refine hK139 _ _ (fun w M => (mem_erase 5 (mem_take 12 M) :)) ?_
                    refine ga_op 6 (by kernel_rfl) rfl (.free rfl) fun K140 hK140 => ?_
                    refine go_v rfl rfl (qt_loadM rfl rfl Tryd.underlying86 rfl (fun w M => mem_ownM (m := 5) rfl M) (by omega) (by omega) (by omega) (by omega)) ?_
                    refine hK140 _ _ (fun w M => (mem_erase 5 (mem_take 12 M) :)) ?_
                    refine ga_v 9 rfl (by kernel_rfl) (by kernel_rfl) (by kernel_rfl) (.free rfl) rfl rfl (qt_orU rfl rfl rfl (by rw [tst_get hT2 (by omega) (by omega) (by omega)]; exact accK_lt _ _) (only_lt _)) (fun _ _ _ h => hKp39 _ _ _ _ h) ?_
                    refine ga_op 11 (by kernel_rfl) rfl (.free rfl) fun K141 hK141 => ?_
                    refine go_v rfl rfl (qt_indexA rfl rfl rfl (fun w M => mem_ownM (m := 5) rfl M) (by omega) (by omega) (by omega) (by omega)) ?_
                    refine hK141 _ _ (fun w M => (mem_erase 5 (mem_take 12 M) :)) ?_
                    refine ga_op 12 (by kernel_rfl) rfl (.free rfl) fun K142 hK142 => ?_
                    refine go_storeM (m := 5) rfl rfl rfl rfl (by kernel_rfl) rfl (by omega) (by omega) (by omega) (by omega) ?_
                    refine hK142 _ _ (fun w M => (mem_erase 5 (mem_take 12 M) :)) ?_
                    refine ga_done (by kernel_rfl) ?_
                    refine gk_block ?_
                    try simp only [List.nil_append, List.cons_append, List.append_assoc, List.set_cons_succ, List.set_cons_zero]
                    refine gk_take 12 ?_
                    refine hKn39 (_) _ ?hi_143
                    case hi_143 => first | exact tst_t hT2 (by omega) p0 p1 (by assumption) | exact tst_f hT2 (by assumption)
                · refine go_v rfl rfl (qt_indexM rfl rfl rfl (fun w M => mem_ownM (m := 5) rfl M) (by omega) (by omega)) ?_
                  refine hK123 _ _ (fun w M => (mem_erase 5 (mem_take 12 M) :)) ?_
                  refine ga_op 4 (by kernel_rfl) rfl (.free rfl) fun K145 hK145 => ?_
                  refine go_v rfl rfl (qt_indexM rfl rfl rfl (fun w M => mem_ownM (m := 5) rfl M) (by omega) (by omega)) ?_
                  refine hK145 _ _ (fun w M => (mem_erase 5 (mem_take 12 M) :)) ?_
                  refine ga_op 5 (by kernel_rfl) rfl (.free rfl) fun K146 hK146 => ?_
                  refine go_v rfl rfl (qt_indexA rfl rfl rfl (fun w M => mem_ownM (m := 5) rfl M) (by omega) (by omega) (by omega) (by omega)) ?_
                  refine hK146 _ _ (fun w M => (mem_erase 5 (mem_take 12 M) :)) ?_
                  refine ga_op 6 (by kernel_rfl) rfl (.free rfl) fun K147 hK147 => ?_
                  refine go_v rfl rfl (qt_loadM rfl rfl Tryd.underlying86 rfl (fun w M => mem_ownM (m := 5) rfl M) (by omega) (by omega) (by omega) (by omega)) ?_
                  refine hK147 _ _ (fun w M => (mem_erase 5 (mem_take 12 M) :)) ?_
                  refine ga_v 9 rfl (by kernel_rfl) (by kernel_rfl) (by kernel_rfl) (.free rfl) rfl rfl (qt_orU rfl rfl rfl (by rw [tst_get hT2 (by omega) (by omega) (by omega)]; exact accK_lt _ _) (only_lt _)) (fun _ _ _ h => hKp39 _ _ _ _ h) ?_
                  refine ga_op 11 (by kernel_rfl) rfl (.free rfl) fun K148 hK148 => ?_
                  refine go_v rfl rfl (qt_indexA rfl rfl rfl (fun w M => mem_ownM (m := 5) rfl M) (by omega) (by omega) (by omega) (by omega)) ?_
                  refine hK148 _ _ (fun w M => (mem_erase 5 (mem_take 12 M) :)) ?_
                  refine ga_op 12 (by kernel_rfl) rfl (.free rfl) fun K149 hK149 => ?_
                  refine go_storeM (m := 5) rfl rfl rfl rfl (by kernel_rfl) rfl (by omega) (by omega) (by omega) (by omega) ?_
                  refine hK149 _ _ (fun w M => (mem_erase 5 (mem_take 12 M) :)) ?_
                  refine ga_done (by kernel_rfl) ?_
                  refine gk_block ?_
                  try simp only [List.nil_append, List.cons_append, List.append_assoc, List.set_cons_succ, List.set_cons_zero]
                  refine gk_take 12 ?_
                  refine hKn39 (_) _ ?hi_150
                  case hi_150 => first | exact tst_t hT2 (by omega) p0 p1 (by assumption) | exact tst_f hT2 (by assumption)
              · refine go_v rfl rfl (qt_indexM rfl rfl rfl (fun w M => mem_ownM (m := 5) rfl M) (by omega) (by omega)) ?_
                refine hK41 _ _ (fun w M => (mem_erase 5 (mem_take 12 M) :)) ?_
                refine ga_two 4 8 (by kernel_rfl) rfl rfl (.free rfl) (.free rfl) (fun K152 hK152 => ?_) (fun K152 hK152 => ?_)
                · refine go_v rfl rfl (qt_indexM rfl rfl rfl (fun w M => mem_ownM (m := 5) rfl M) (by omega) (by omega)) ?_
                  refine hK152 _ _ (fun w M => (mem_erase 5 (mem_take 12 M) :)) ?_
                  refine ga_two 5 8 (by kernel_rfl) rfl rfl (.free rfl) (.free rfl) (fun K154 hK154 => ?_) (fun K154 hK154 => ?_)
                  · refine go_v rfl rfl (qt_indexA rfl rfl rfl (fun w M => mem_ownM (m := 5) rfl M) (by omega) (by omega) (by omega) (by omega)) ?_
                    refine hK154 _ _ (fun w M => (mem_erase 5 (mem_take 12 M) :)) ?_
                    refine ga_two 6 8 (by kernel_rfl) rfl rfl (.free rfl) (.free rfl) (fun K156 hK156 => ?_) (fun K156 hK156 => ?_)
                    · refine go_v rfl rfl (qt_loadM rfl rfl Tryd.underlying86 rfl (fun w M => mem_ownM (m := 5) rfl M) (by omega) (by omega) (by omega) (by omega)) ?_
                      refine hK156 _ _ (fun w M => (mem_erase 5 (mem_take 12 M) :)) ?_
                      refine ga_op 8 (by kernel_rfl) rfl (.free rfl) fun K158 hK158 => ?_
                      refine go_q rfl rfl (qt_call rfl Tryd.func88 rfl (by decide) rfl (fun w M => only_any w _ (by omega) (by omega))) ?_
                      refine hK158 _ _ (fun w M => (mem_erase 5 (mem_take 12 M) :)) ?_
                      refine ga_v 9 rfl (by kernel_rfl) (by kernel_rfl) (by kernel_rfl) (.free rfl) rfl rfl (qt_orU rfl rfl rfl (by rw [tst_get hT2 (by omega) (by omega) (by omega)]; exact accK_lt _ _) (only_lt _)) (fun _ _ _ h => hKp39 _ _ _ _ h) ?_
                      refine ga_op 11 (by kernel_rfl) rfl (.free rfl) fun K159 hK159 => ?_
                      refine go_v rfl rfl (qt_indexA rfl rfl rfl (fun w M => mem_ownM (m := 5) rfl M) (by omega) (by omega) (by omega) (by omega)) ?_
                      refine hK159 _ _ (fun w M => (mem_erase 5 (mem_take 12 M) :)) ?_
                      refine ga_op 12 (by kernel_rfl) rfl (.free rfl) fun K160 hK160 => ?_
                      refine go_storeM (m := 5) rfl rfl rfl rfl (by kernel_rfl) rfl (by omega) (by omega) (by omega) (by omega) ?_
                      refine hK160 _ _ (fun w M => (mem_erase 5 (mem_take 12 M) :)) ?_
                      refine ga_done (by kernel_rfl) ?_
                      refine gk_block ?_
                      try simp only [List.nil_append, List.cons_append, List.append_assoc, List.set_cons_succ, List.set_cons_zero]
                      refine gk_take 12 ?_
                      refine hKn39 (_) _ ?hi_161
                      case hi_161 => first | exact tst_t hT2 (by omega) p0 p1 (by assumption) | exact tst_f hT2 (by assumption)
                    · refine go_q rfl rfl (qt_call rfl Tryd.func88 rfl (by decide) rfl (fun w M => only_any w _ (by omega) (by omega))) ?_
                      refine hK156 _ _ (fun w M => (mem_erase 5 (mem_take 12 M) :)) ?_
                      refine ga_op 6 (by kernel_rfl) rfl (.free rfl) fun K163 hK163 => ?_
                      refine go_v rfl rfl (qt_loadM rfl rfl Tryd.underlying86 rfl (fun w M => mem_ownM (m := 5) rfl M) (by omega) (by omega) (by omega) (by omega)) ?_
                      refine hK163 _ _ (fun w M => (mem_erase 5 (mem_take 12 M) :)) ?_
                      refine ga_v 9 rfl (by kernel_rfl) (by kernel_rfl) (by kernel_rfl) (.free rfl) rfl rfl (qt_orU rfl rfl rfl (by rw [tst_get hT2 (by omega) (by omega) (by omega)]; exact accK_lt _ _) (only_lt _)) (fun _ _ _ h => hKp39 _ _ _ _ h) ?_
                      refine ga_op 11 (by kernel_rfl) rfl (.free rfl) fun K164 hK164 => ?_
                      refine go_v rfl rfl (qt_indexA rfl rfl rfl (fun w M => mem_ownM (m := 5) rfl M) (by omega) (by omega) (by omega) (by omega)) ?_
                      refine hK164 _ _ (fun w M => (mem_erase 5 (mem_take 12 M) :)) ?_
                      refine ga_op 12 (by kernel_rfl) rfl (.free rfl) fun K165 hK165 => ?_
                      refine go_storeM (m := 5) rfl rfl rfl rfl (by kernel_rfl) rfl (by omega) (by omega) (by omega) (by omega) ?_
                      refine hK165 _ _ (fun w M => (mem_erase 5 (mem_take 12 M) :)) ?_
                      refine ga_done (by kernel_rfl) ?_
                      refine gk_block ?_
                      try simp only [List.nil_append, List.cons_append, List.append_assoc, List.set_cons_succ, List.set_cons_zero]
                      refine gk_take 12 ?_
                      refine hKn39 (_) _ ?hi_166
                      case hi_166 => first | exact tst_t hT2 (by omega) p0 p1 (by assumption) | exact tst_f hT2 (by assumption)
                  · refine go_q rfl rfl (qt_call rfl Tryd.func88 rfl (by decide) rfl (fun w M => only_any w _ (by omega) (by omega))) ?_
                    refine hK154 _ _ (fun w M => (mem_erase 5 (mem_take 12 M) :)) ?_
                    refine ga_op 5 (by kernel_rfl) rfl (.free rfl) fun K168 hK168 => ?_
                    refine go_v rfl rfl (qt_indexA rfl rfl rfl (fun w M => mem_ownM (m := 5) rfl M) (by omega) (by omega) (by omega) (by omega)) ?_
                    refine hK168 _ _ (fun w M => (mem_erase 5 (mem_take 12 M) :)) ?_
                    refine ga_op 6 (by kernel_rfl) rfl (.free rfl) fun K169 hK169 => ?_
                    refine go_v rfl rfl (qt_loadM rfl rfl Tryd.underlying86 rfl (fun w M => mem_ownM (m := 5) rfl M) (by omega) (by omega) (by omega) (by omega)) ?_
                    refine hK169 _ _ (fun w M => (mem_erase 5 (mem_take 12 M) :)) ?_
                    refine ga_v 9 rfl (by kernel_rfl) (by kernel_rfl) (by kernel_rfl) (.free rfl) rfl rfl (qt_orU rfl rfl rfl (by rw [tst_get hT2 (by omega) (by omega) (by omega)]; exact accK_lt _ _) (only_lt _)) (fun _ _ _ h => hKp39 _ _ _ _ h) ?_
                    refine ga_op 11 (by kernel_rfl) rfl (.free rfl) fun K170 hK170 => ?_
                    refine go_v rfl rfl (qt_indexA rfl rfl rfl (fun w M => mem_ownM (m := 5) rfl M) (by omega) (by omega) (by omega) (by omega)) ?_
                    refine hK170 _ _ (fun w M => (mem_erase 5 (mem_take 12 M) :)) ?_
                    refine ga_op 12 (by kernel_rfl) rfl (.free rfl) fun K171 hK171 => ?_
                    refine go_storeM (m := 5) rfl rfl rfl rfl (by kernel_rfl) rfl (by omega) (by omega) (by omega) (by omega) ?_
                    refine hK171 _ _ (fun w M => (mem_erase 5 (mem_take 12 M) :)) ?_
                    refine ga_done (by kernel_rfl) ?_
                    refine gk_block ?_
                    try simp only [List.nil_append, List.cons_append, List.append_assoc, List.set_cons_succ, List.set_cons_zero]
                    refine gk_take 12 ?_
                    refine hKn39 (_) _ ?hi_172
                    case hi_172 => first | exact tst_t hT2 (by omega) p0 p1 (by assumption) | exact tst_f hT2 (by assumption)
                · refine go_q rfl rfl (qt_call rfl Tryd.func88 rfl (by decide) rfl (fun w M => only_any w _ (by omega) (by omega))) ?_
                  refine hK152 _ _ (fun w M => (mem_erase 5 (mem_take 12 M) :)) ?_
                  refine ga_op 4 (by kernel_rfl) rfl (.free rfl) fun K174 hK174 => ?_
                  refine go_v rfl rfl (qt_indexM rfl rfl rfl (fun w M => mem_ownM (m := 5) rfl M) (by omega) (by omega)) ?_
                  refine hK174 _ _ (fun w M => (mem_erase 5 (mem_take 12 M) :)) ?_
                  refine ga_op 5 (by kernel_rfl) rfl (.free rfl) fun K175 hK175 => ?_
                  refine go_v rfl rfl (qt_indexA rfl rfl rfl (fun w M => mem_ownM (m := 5) rfl M) (by omega) (by omega) (by omega) (by omega)) ?_
                  refine hK175 _ _ (fun w M => (mem_erase 5 (mem_take 12 M) :)) ?_
                  refine ga_op 6 (by kernel_rfl) rfl (.free rfl) fun K176 hK176 => ?_
                  refine go_v rfl rfl (qt_loadM rfl rfl Tryd.underlying86 rfl (fun w M => mem_ownM (m := 5) rfl M) (by omega) (by omega) (by omega) (by omega)) ?_
                  refine hK176 _ _ (fun w M => (mem_erase 5 (mem_take 12 M) :)) ?_
                  refine ga_v 9 rfl (by kernel_rfl) (by kernel_rfl) (by kernel_rfl) (.free rfl) rfl rfl (qt_orU rfl rfl rfl (by rw [tst_get hT2 (by omega) (by omega) (by omega)]; exact accK_lt _ _) (only_lt _)) (fun _ _ _ h => hKp39 _ _ _ _ h) ?_
                  refine ga_op 11 (by kernel_rfl) rfl (.free rfl) fun K177 hK177 => ?_
                  refine go_v rfl rfl (qt_indexA rfl rfl rfl (fun w M => mem_ownM (m := 5) rfl M) (by omega) (by omega) (by omega) (by omega)) ?_
                  refine hK177 _ _ (fun w M => (mem_erase 5 (mem_take 12 M) :)) ?_
                  refine ga_op 12 (by kernel_rfl) rfl (.free rfl) fun K178 hK178 => ?_
                  refine go_storeM (m := 5) rfl rfl rfl rfl (by kernel_rfl) rfl (by omega) (by omega) (by omega) (by omega) ?_
                  refine hK178 _ _ (fun w M => (mem_erase 5 (mem_take 12 M) :)) ?_
                  refine ga_done (by kernel_rfl) ?_
                  refine gk_block ?_
                  try simp only [List.nil_append, List.cons_append, List.append_assoc, List.set_cons_succ, List.set_cons_zero]
                  refine gk_take 12 ?_
                  refine hKn39 (_) _ ?hi_179
                  case hi_179 => first | exact tst_t hT2 (by omega) p0 p1 (by assumption) | exact tst_f hT2 (by assumption)
            · try simp only [decide_eq_true_eq, decide_eq_false_iff_not, Bool.not_eq_true', Bool.not_eq_false', Bool.not_eq_eq_eq_not, Bool.not_true, Bool.not_false, ne_eq, Decidable.not_not, Classical.not_not] at hc2
              refine gc_skip ?_
              refine gk_block ?_
              try simp only [List.nil_append, List.cons_append, List.append_assoc, List.set_cons_succ, List.set_cons_zero]
              refine gk_take 12 ?_
              refine hKn39 (_) _ ?hi_180
              case hi_180 => first | exact tst_t hT2 (by omega) p0 p1 (by assumption) | exact tst_f hT2 (by assumption)
          · rintro xs fs2 hL hinv
            simp only [updL, List.foldl_cons, List.foldl_nil, List.take_succ_cons, List.take_zero, List.drop_succ_cons, List.drop_zero, List.set_cons_succ, List.set_cons_zero, List.cons_append, List.nil_append] at *
            have hT2 := hinv
            rw [map_id'] at hL
            subst hL
            refine gk_block ?_
            refine gk_block ?_
            try simp only [List.nil_append, List.cons_append, List.append_assoc, List.set_cons_succ, List.set_cons_zero]
            refine gk_take 10 ?_
            refine hKn29 ((q ++ [p], _)) _ ?hi_181
            case hi_181 => exact ⟨rfl, tst_end hT2 p0 (by first | exact ent_t (by assumption) | exact ent_f (by assumption))⟩
          · rintro pre fs2 hL hinv; exact absurd hinv (by simp)
          · rintro id pre fs2 hL hinv; exact absurd hinv (by simp)
        · try simp only [decide_eq_true_eq, decide_eq_false_iff_not, Bool.not_eq_true', Bool.not_eq_false', Bool.not_eq_eq_eq_not, Bool.not_true, Bool.not_false, ne_eq, Decidable.not_not, Classical.not_not] at hc1
          refine gc_skip ?_
          refine gk_then (hK34 _ _ ?_)
          refine gc_seqD fun K182 hK182 => ?_
          refine gc_region ?_
          refine g_v (.free rfl) rfl rfl (qt_move rfl rfl) ?_
          refine g_op (.free rfl) fun K184 hK184 => ?_
          refine go_callNum rfl rfl rfl Tryd.func91 rfl (by decide) rfl (fun w M => numbers_any w _) ?_
          intro B183
          refine hK184 _ _ ?_
          refine g_nil ?_
          refine gk_then (hK182 _ _ ?_)
          refine gc_block ?_
          try simp only [List.nil_append, List.cons_append, List.append_assoc, List.set_cons_succ, List.set_cons_zero]
          refine gc_rangeN (α := Int) (σ := (List Nat)) 10 rfl rfl Tryd.func118 rfl (by decide) rfl (num_seq hT (by first | exact only_lt _ | exact atW_lt hsw _)) (fun s : (List Nat) => (fun (fs2 : List Nat) => ([(4, ownMI (.slice (some ⟨Bm, 0, none⟩) c.s.length c.s.length) c.s.length fs2)] : List (Nat × Itm))) s) (fun (pre : List Int) => (fun s : (List Nat) => (fun (fs2 : List Nat) => Tst c ss sq c.s.length k q p (accK (sq (k : Int) p) pre) fs2) s)) (fun (c : Code) (pre : List Int) => (fun s : (List Nat) => (fun (fs2 : List Nat) => False) s)) fs1 (tst_start hT1 hnp p0) rfl rfl rfl ?_ ?_ ?_ ?_
          · rintro l185 r185 js185 pre z fs2 hinv hpre Ka185 Kb185 hKp185 hKa185 hKn185 hKr185 hKe185
            simp only [updL, List.foldl_cons, List.foldl_nil, List.take_succ_cons, List.take_zero, List.drop_succ_cons, List.drop_zero, List.set_cons_succ, List.set_cons_zero, List.cons_append, List.nil_append] at hinv hKn185 hKr185 hKe185 ⊢
            have hT2 := hinv
            rw [map_id'] at hpre
            have hz : 0 ≤ z ∧ z < L := by first | exact only_in p0 p1 pL (pre_mem hpre) | exact ⟨(bits40 (atW_F hs _) (pre_mem hpre)).1, hL40 _ (atW_mem (by omega) (by omega)) z (pre_mem hpre)⟩
            have z0 := hz.1; have z1 := hz.2
            refine gc_region ?_
            refine g_v (.free rfl) rfl rfl (qt_assign rfl rfl) ?_
            refine g_nil ?_
            try simp only [List.nil_append, List.cons_append, List.append_assoc, List.set_cons_succ, List.set_cons_zero]
            refine gk_then (hKa185 _ _ ?_)
            refine gc_block ?_
            refine gc_seqD fun K186 hK186 => ?_
            refine gc_region ?_
            refine g_v (.free rfl) rfl rfl (qt_loadB (n := 3) rfl rfl Tryd.underlying101 rfl rfl rfl) ?_
            refine g_v (.free rfl) rfl rfl (qt_loadB (n := 7) rfl rfl Tryd.underlying2 rfl rfl rfl) ?_
            refine g_v (.free rfl) rfl rfl (qt_loadB (n := 10) rfl rfl Tryd.underlying2 rfl rfl rfl) ?_
            refine g_v (.free rfl) rfl rfl (qt_move rfl rfl) ?_
            refine g_q (.free rfl) rfl rfl (qt_callV rfl rfl rfl (fun w M => hk w M.1 _ _ _ (by omega) (by omega) (by omega) (by omega) (by omega) (by omega))) ?_
            refine g_nil ?_
            refine gk_then (hK186 _ _ ?_)
            refine gc_cond rfl (fun hc3 => ?_) (fun hc3 => ?_)
            · try simp only [decide_eq_true_eq, decide_eq_false_iff_not, Bool.not_eq_true', Bool.not_eq_false', Bool.not_eq_eq_eq_not, Bool.not_true, Bool.not_false, ne_eq, Decidable.not_not, Classical.not_not] at hc3
              try simp only [List.nil_append, List.cons_append, List.append_assoc, List.set_cons_succ, List.set_cons_zero]
              refine ga_start _ (fun w M => mem_erase 5 (M)) ?_
              refine ga_v 0 rfl (by kernel_rfl) (by kernel_rfl) (by kernel_rfl) (.free rfl) rfl rfl (qt_field (z := 0) (off := 5) rfl rfl Tryd.underlying98 rfl (by kernel_rfl) rfl) (fun _ _ _ h => hKp185 _ _ _ _ h) ?_
              refine ga_v 1 rfl (by kernel_rfl) (by kernel_rfl) (by kernel_rfl) (.free rfl) rfl rfl (qt_loadB (n := 5) rfl rfl Tryd.underlying96 rfl rfl rfl) (fun _ _ _ h => hKp185 _ _ _ _ h) ?_
              refine ga_v 2 rfl (by kernel_rfl) (by kernel_rfl) (by kernel_rfl) (.free rfl) rfl rfl (qt_loadB (n := 6) rfl rfl Tryd.underlying2 rfl rfl rfl) (fun _ _ _ h => hKp185 _ _ _ _ h) ?_
              refine ga_v 3 rfl (by kernel_rfl) (by kernel_rfl) (by kernel_rfl) (.free rfl) rfl rfl (qt_loadB (n := 9) rfl rfl Tryd.underlying2 rfl rfl rfl) (fun _ _ _ h => hKp185 _ _ _ _ h) ?_
              refine ga_v 7 rfl (by kernel_rfl) (by kernel_rfl) (by kernel_rfl) (.free rfl) rfl rfl (qt_move rfl rfl) (fun _ _ _ h => hKp185 _ _ _ _ h) ?_
              refine ga_three 4 8 10 (by kernel_rfl) rfl (.free rfl) rfl (.free rfl) rfl (.free rfl) (fun K187 hK187 => ?_) (fun K187 hK187 => ?_) (fun K187 hK187 => ?_)
              · refine go_v rfl rfl (qt_indexM rfl rfl rfl (fun w M => mem_ownM (m := 5) rfl M) (by omega) (by omega)) ?_
                refine hK187 _ _ (fun w M => (mem_erase 5 (mem_take 12 M) :)) ?_
                refine ga_three 5 8 10 (by kernel_rfl) rfl (.free rfl) rfl (.free rfl) rfl (.free rfl) (fun K189 hK189 => ?_) (fun K189 hK189 => ?_) (fun K189 hK189 => ?_)
                · refine go_v rfl rfl (qt_indexA rfl rfl rfl (fun w M => mem_ownM (m := 5) rfl M) (by omega) (by omega) (by omega) (by omega)) ?_
                  refine hK189 _ _ (fun w M => (mem_erase 5 (mem_take 12 M) :)) ?_
                  refine ga_three 6 8 10 (by kernel_rfl) rfl (.free rfl) rfl (.free rfl) rfl (.free rfl) (fun K191 hK191 => ?_) (fun K191 hK191 => ?_) (fun K191 hK191 => ?_)
                  · refine go_v rfl rfl (qt_loadM rfl rfl Tryd.underlying86 rfl (fun w M => mem_ownM (m := 5) rfl M) (by omega) (by omega) (by omega) (by omega)) ?_
                    refine hK191 _ _ (fun w M => (mem_erase 5 (mem_take 12 M) :)) ?_
                    refine ga_two 8 10 (by kernel_rfl) rfl rfl (.free rfl) (.free rfl) (fun K193 hK193 => ?_) (fun K193 hK193 => ?_)
                    · refine go_q rfl rfl (qt_call rfl Tryd.func88 rfl (by decide) rfl (fun w M => only_any w _ (by omega) (by omega))) ?_
                      refine hK193 _ _ (fun w M => (mem_erase 5 (mem_take 12 M) :)) ?_
                      refine ga_v 9 rfl (by kernel_rfl) (by kernel_rfl) (by kernel_rfl) (.free rfl) rfl rfl (qt_orU rfl rfl rfl (by rw [tst_get hT2 (by omega) (by omega) (by omega)]; exact accK_lt _ _) (only_lt _)) (fun _ _ _ h => hKp185 _ _ _ _ h) ?_
                      refine ga_op 10 (by kernel_rfl) rfl (.free rfl) fun K195 hK195 => ?_
                      refine go_v rfl rfl (qt_indexM rfl rfl rfl (fun w M => mem_ownM (m := 5) rfl M) (by omega) (by omega)) ?_
                      refine hK195 _ _ (fun w M => (mem_erase 5 (mem_take 12 M) :)) ?_
                      refine ga_op 11 (by kernel_rfl) rfl (.free rfl) fun K196 hK196 => ?_
                      refine go_v rfl rfl (qt_indexA rfl rfl rfl (fun w M => mem_ownM (m := 5) rfl M) (by omega) (by omega) (by omega) (by omega)) ?_
                      refine hK196 _ _ (fun w M => (mem_erase 5 (mem_take 12 M) :)) ?_
                      refine ga_op 12 (by kernel_rfl) rfl (.free rfl) fun K197 hK197 => ?_
                      refine go_storeM (m := 5) rfl rfl rfl rfl (by kernel_rfl) rfl (by omega) (by omega) (by omega) (by omega) ?_
                      refine hK197 _ _ (fun w M => (mem_erase 5 (mem_take 12 M) :)) ?_
                      refine ga_done (by kernel_rfl) ?_
                      refine gk_block ?_
                      try simp only [List.nil_append, List.cons_append, List.append_assoc, List.set_cons_succ, List.set_cons_zero]
                      refine gk_take 12 ?_
                      refine hKn185 (_) _ ?hi_198
                      case hi_198 => first | exact tst_t hT2 (by omega) p0 p1 (by assumption) | exact tst_f hT2 (by assumption)
                    · refine go_v rfl rfl (qt_indexM rfl rfl rfl (fun w M => mem_ownM (m := 5) rfl M) (by omega) (by omega)) ?_
                      refine hK193 _ _ (fun w M => (mem_erase 5 (mem_take 12 M) :)) ?_
                      refine ga_op 8 (by kernel_rfl) rfl (.free rfl) fun K200 hK200 => ?_
                      refine go_q rfl rfl (qt_call rfl Tryd.func88 rfl (by decide) rfl (fun w M => only_any w _ (by omega) (by omega))) ?_
                      refine hK200 _ _ (fun w M => (mem_erase 5 (mem_take 12 M) :)) ?_
                      refine ga_v 9 rfl (by kernel_rfl) (by kernel_rfl) (by kernel_rfl) (.free rfl) rfl rfl (qt_orU rfl rfl rfl (by rw [tst_get hT2 (by omega) (by omega) (by omega)]; exact accK_lt _ _) (only_lt _)) (fun _ _ _ h => hKp185 _ _ _ _ h) ?_
                      refine ga_op 11 (by kernel_rfl) rfl (.free rfl) fun K201 hK201 => ?_
                      refine go_v rfl rfl (qt_indexA rfl rfl rfl (fun w M => mem_ownM (m := 5) rfl M) (by omega) (by omega) (by omega) (by omega)) ?_
                      refine hK201 _ _ (fun w M => (mem_erase 5 (mem_take 12 M) :)) ?_
                      refine ga_op 12 (by kernel_rfl) rfl (.free rfl) fun K202 hK202 => ?_
                      refine go_storeM (m := 5) rfl rfl rfl rfl (by kernel_rfl) rfl (by omega) (by omega) (by omega) (by omega) ?_
                      refine hK202 _ _ (fun w M => (mem_erase 5 (mem_take 12 M) :)) ?_
                      refine ga_done (by kernel_rfl) ?_
                      refine gk_block ?_
                      try simp only [List.nil_append, List.cons_append, List.append_assoc, List.set_cons_succ, List.set_cons_zero]
                      refine gk_take 12 ?_
                      refine hKn185 (_) _ ?hi_203
                      case hi_203 => first | exact tst_t hT2 (by omega) p0 p1 (by assumption) | exact tst_f hT2 (by assumption)
                  · refine go_q rfl rfl (qt_call rfl Tryd.func88 rfl (by decide) rfl (fun w M => only_any w _ (by omega) (by omega))) ?_
                    refine hK191 _ _ (fun w M => (mem_erase 5 (mem_take 12 M) :)) ?_
                    refine ga_two 6 10 (by kernel_rfl) rfl rfl (.free rfl) (.free rfl) (fun K205 hK205 => ?_) (fun K205 hK205 => ?_)
                    · refine go_v rfl rfl (qt_loadM rfl rfl Tryd.underlying86 rfl (fun w M => mem_ownM (m := 5) rfl M) (by omega) (by omega) (by omega) (by omega)) ?_
                      refine hK205 _ _ (fun w M => (mem_erase 5 (mem_take 12 M) :)) ?_
                      refine ga_v 9 rfl (by kernel_rfl) (by kernel_rfl) (by kernel_rfl) (.free rfl) rfl rfl (qt_orU rfl rfl rfl (by rw [tst_get hT2 (by omega) (by omega) (by omega)]; exact accK_lt _ _) (only_lt _)) (fun _ _ _ h => hKp185 _ _ _ _ h) ?_
                      refine ga_op 10 (by kernel_rfl) rfl (.free rfl) fun K207 hK207 => ?_
                      refine go_v rfl rfl (qt_indexM rfl rfl rfl (fun w M => mem_ownM (m := 5) rfl M) (by omega) (by omega)) ?_
                      refine hK207 _ _ (fun w M => (mem_erase 5 (mem_take 12 M) :)) ?_
                      refine ga_op 11 (by kernel_rfl) rfl (.free rfl) fun K208 hK208 => ?_
                      refine go_v rfl rfl (qt_indexA rfl rfl rfl (fun w M => mem_ownM (m := 5) rfl M) (by omega) (by omega) (by omega) (by omega)) ?_
                      refine hK208 _ _ (fun w M => (mem_erase 5 (mem_take 12 M) :)) ?_
                      refine ga_op 12 (by kernel_rfl) rfl (.free rfl) fun K209 hK209 => ?_
                      refine go_storeM (m := 5) rfl rfl rfl rfl (by kernel_rfl) rfl (by omega) (by omega) (by omega) (by omega) ?_
                      refine hK209 _ _ (fun w M => (mem_erase 5 (mem_take 12 M) :)) ?_
                      refine ga_done (by kernel_rfl) ?_
                      refine gk_block ?_
                      try simp only [List.nil_append, List.cons_append, List.append_assoc, List.set_cons_succ, List.set_cons_zero]
                      refine gk_take 12 ?_
                      refine hKn185 (_) _ ?hi_210
                      case hi_210 => first | exact tst_t hT2 (by omega) p0 p1 (by assumption) | exact tst_f hT2 (by assumption)
                    · refine go_v rfl rfl (qt_indexM rfl rfl rfl (fun w M => mem_ownM (m := 5) rfl M) (by omega) (by omega)) ?_
                      refine hK205 _ _ (fun w M => (mem_erase 5 (mem_take 12 M) :)) ?_
                      refine ga_op 6 (by kernel_rfl) rfl (.free rfl) fun K212 hK212 => ?_
                      refine go_v rfl rfl (qt_loadM rfl rfl Tryd.underlying86 rfl (fun w M => mem_ownM (m := 5) rfl M) (by omega) (by omega) (by omega) (by omega)) ?_
                      refine hK212 _ _ (fun w M => (mem_erase 5 (mem_take 12 M) :)) ?_
                      refine ga_v 9 rfl (by kernel_rfl) (by kernel_rfl) (by kernel_rfl) (.free rfl) rfl rfl (qt_orU rfl rfl rfl (by rw [tst_get hT2 (by omega) (by omega) (by omega)]; exact accK_lt _ _) (only_lt _)) (fun _ _ _ h => hKp185 _ _ _ _ h) ?_
                      refine ga_op 11 (by kernel_rfl) rfl (.free rfl) fun K213 hK213 => ?_
                      refine go_v rfl rfl (qt_indexA rfl rfl rfl (fun w M => mem_ownM (m := 5) rfl M) (by omega) (by omega) (by omega) (by omega)) ?_
                      refine hK213 _ _ (fun w M => (mem_erase 5 (mem_take 12 M) :)) ?_
                      refine ga_op 12 (by kernel_rfl) rfl (.free rfl) fun K214 hK214 => ?_
                      refine go_storeM (m := 5) rfl rfl rfl rfl (by kernel_rfl) rfl (by omega) (by omega) (by omega) (by omega) ?_
                      refine hK214 _ _ (fun w M => (mem_erase 5 (mem_take 12 M) :)) ?_
                      refine ga_done (by kernel_rfl) ?_
                      refine gk_block ?_
                      try simp only [List.nil_append, List.cons_append, List.append_assoc, List.set_cons_succ, List.set_cons_zero]
                      refine gk_take 12 ?_
                      refine hKn185 (_) _ ?hi_215
                      case hi_215 => first | exact tst_t hT2 (by omega) p0 p1 (by assumption) | exact tst_f hT2 (by assumption)
                  · refine go_v rfl rfl (qt_indexM rfl rfl rfl (fun w M => mem_ownM (m := 5) rfl M) (by omega) (by omega)) ?_
                    refine hK191 _ _ (fun w M => (mem_erase 5 (mem_take 12 M) :)) ?_
                    refine ga_two 6 8 (by kernel_rfl) rfl rfl (.free rfl) (.free rfl) (fun K217 hK217 => ?_) (fun K217 hK217 => ?_)
                    · refine go_v rfl rfl (qt_loadM rfl rfl Tryd.underlying86 rfl (fun w M => mem_ownM (m := 5) rfl M) (by omega) (by omega) (by omega) (by omega)) ?_
                      refine hK217 _ _ (fun w M => (mem_erase 5 (mem_take 12 M) :)) ?_
                      refine ga_op 8 (by kernel_rfl) rfl (.free rfl) fun K219 hK219 => ?_
                      refine go_q rfl rfl (qt_call rfl Tryd.func88 rfl (by decide) rfl (fun w M => only_any w _ (by omega) (by omega))) ?_
                      refine hK219 _ _ (fun w M => (mem_erase 5 (mem_take 12 M) :)) ?_
                      refine ga_v 9 rfl (by kernel_rfl) (by kernel_rfl) (by kernel_rfl) (.free rfl) rfl rfl (qt_orU rfl rfl rfl (by rw [tst_get hT2 (by omega) (by omega) (by omega)]; exact accK_lt _ _) (only_lt _)) (fun _ _ _ h => hKp185 _ _ _ _ h) ?_
                      refine ga_op 11 (by kernel_rfl) rfl (.free rfl) fun K220 hK220 => ?_
                      refine go_v rfl rfl (qt_indexA rfl rfl rfl (fun w M => mem_ownM (m := 5) rfl M) (by omega) (by omega) (by omega) (by omega)) ?_
                      refine hK220 _ _ (fun w M => (mem_erase 5 (mem_take 12 M) :)) ?_
                      refine ga_op 12 (by kernel_rfl) rfl (.free rfl) fun K221 hK221 => ?_
                      refine go_storeM (m := 5) rfl rfl rfl rfl (by kernel_rfl) rfl (by omega) (by omega) (by omega) (by omega) ?_
                      refine hK221 _ _ (fun w M => (mem_erase 5 (mem_take 12 M) :)) ?_
                      refine ga_done (by kernel_rfl) ?_
                      refine gk_block ?_
                      try simp only [List.nil_append, List.cons_append, List.append_assoc, List.set_cons_succ, List.set_cons_zero]
                      refine gk_take 12 ?_
                      refine hKn185 (_) _ ?hi_222
                      case hi_222 => first | exact tst_t hT2 (by omega) p0 p1 (by assumption) | exact tst_f hT2 (by assumption)
                    · refine go_q rfl rfl (qt_call rfl Tryd.func88 rfl (by decide) rfl (fun w M => only_any w _ (by omega) (by omega))) ?_
                      refine hK217 _ _ (fun w M => (mem_erase 5 (mem_take 12 M) :)) ?_
                      refine ga_op 6 (by kernel_rfl) rfl (.free rfl) fun K224 hK224 => ?_
                      refine go_v rfl rfl (qt_loadM rfl rfl Tryd.underlying86 rfl (fun w M => mem_ownM (m := 5) rfl M) (by omega) (by omega) (by omega) (by omega)) ?_
                      refine hK224 _ _ (fun w M => (mem_erase 5 (mem_take 12 M) :)) ?_
                      refine ga_v 9 rfl (by kernel_rfl) (by kernel_rfl) (by kernel_rfl) (.free rfl) rfl rfl (qt_orU rfl rfl rfl (by rw [tst_get hT2 (by omega) (by omega) (by omega)]; exact accK_lt _ _) (only_lt _)) (fun _ _ _ h => hKp185 _ _ _ _ h) ?_
                      refine ga_op 11 (by kernel_rfl) rfl (.free rfl) fun K225 hK225 => ?_
                      refine go_v rfl rfl (qt_indexA rfl rfl rfl (fun w M => mem_ownM (m := 5) rfl M) (by omega) (by omega) (by omega) (by omega)) ?_
                      refine hK225 _ _ (fun w M => (mem_erase 5 (mem_take 12 M) :)) ?_
                      refine ga_op 12 (by kernel_rfl) rfl (.free rfl) fun K226 hK226 => ?_
                      refine go_storeM (m := 5) rfl rfl rfl rfl (by kernel_rfl) rfl (by omega) (by omega) (by omega) (by omega) ?_
                      refine hK226 _ _ (fun w M => (mem_erase 5 (mem_take 12 M) :)) ?_
                      refine ga_done (by kernel_rfl) ?_
                      refine gk_block ?_
                      try simp only [List.nil_append, List.cons_append, List.append_assoc, List.set_cons_succ, List.set_cons_zero]
                      refine gk_take 12 ?_
                      refine hKn185 (_) _ ?hi_227
                      case hi_227 => first | exact tst_t hT2 (by omega) p0 p1 (by assumption) | exact tst_f hT2 (by assumption)
                · refine go_q rfl rfl (qt_call rfl Tryd.func88 rfl (by decide) rfl (fun w M => only_any w _ (by omega) (by omega))) ?_
                  refine hK189 _ _ (fun w M => (mem_erase 5 (mem_take 12 M) :)) ?_
                  refine ga_two 5 10 (by kernel_rfl) rfl rfl (.free rfl) (.free rfl) (fun K229 hK229 => ?_) (fun K229 hK229 => ?_)
                  · refine go_v rfl rfl (qt_indexA rfl rfl rfl (fun w M => mem_ownM (m := 5) rfl M) (by omega) (by omega) (by omega) (by omega)) ?_
                    refine hK229 _ _ (fun w M => (mem_erase 5 (mem_take 12 M) :)) ?_
                    refine ga_two 6 10 (by kernel_rfl) rfl rfl (.free rfl) (.free rfl) (fun K231 hK231 => ?_) (fun K231 hK231 => ?_)
                    · refine go_v rfl rfl (qt_loadM rfl rfl Tryd.underlying86 rfl (fun w M => mem_ownM (m := 5) rfl M) (by omega) (by omega) (by omega) (by omega)) ?_
                      refine hK231 _ _ (fun w M => (mem_erase 5 (mem_take 12 M) :)) ?_
                      refine ga_v 9 rfl (by kernel_rfl) (by kernel_rfl) (by kernel_rfl) (.free rfl) rfl rfl (qt_orU rfl rfl rfl (by rw [tst_get hT2 (by omega) (by omega) (by omega)]; exact accK_lt _ _) (only_lt _)) (fun _ _ _ h => hKp185 _ _ _ _ h) ?_
                      refine ga_op 10 (by kernel_rfl) rfl (.free rfl) fun K233 hK233 => ?_
                      refine go_v rfl rfl (qt_indexM rfl rfl rfl (fun w M => mem_ownM (m := 5) rfl M) (by omega) (by omega)) ?_
                      refine hK233 _ _ (fun w M => (mem_erase 5 (mem_take 12 M) :)) ?_
                      refine ga_op 11 (by kernel_rfl) rfl (.free rfl) fun K234 hK234 => ?_
                      refine go_v rfl rfl (qt_indexA rfl rfl rfl (fun w M => mem_ownM (m := 5) rfl M) (by omega) (by omega) (by omega) (by omega)) ?_
                      refine hK234 _ _ (fun w M => (mem_erase 5 (mem_take 12 M) :)) ?_
                      refine ga_op 12 (by kernel_rfl) rfl (.free rfl) fun K235 hK235 => ?_
                      refine go_storeM (m := 5) rfl rfl rfl rfl (by kernel_rfl) rfl (by omega) (by omega) (by omega) (by omega) ?_
                      refine hK235 _ _ (fun w M => (mem_erase 5 (mem_take 12 M) :)) ?_
                      refine ga_done (by kernel_rfl) ?_
                      refine gk_block ?_
                      try simp only [List.nil_append, List.cons_append, List.append_assoc, List.set_cons_succ, List.set_cons_zero]
                      refine gk_take 12 ?_
                      refine hKn185 (_) _ ?hi_236
                      case hi_236 => first | exact tst_t hT2 (by omega) p0 p1 (by assumption) | exact tst_f hT2 (by assumption)
                    · refine go_v rfl rfl (qt_indexM rfl rfl rfl (fun w M => mem_ownM (m := 5) rfl M) (by omega) (by omega)) ?_
                      refine hK231 _ _ (fun w M => (mem_erase 5 (mem_take 12 M) :)) ?_
                      refine ga_op 6 (by kernel_rfl) rfl (.free rfl) fun K238 hK238 => ?_
                      refine go_v rfl rfl (qt_loadM rfl rfl Tryd.underlying86 rfl (fun w M => mem_ownM (m := 5) rfl M) (by omega) (by omega) (by omega) (by omega)) ?_
                      refine hK238 _ _ (fun w M => (mem_erase 5 (mem_take 12 M) :)) ?_
                      refine ga_v 9 rfl (by kernel_rfl) (by kernel_rfl) (by kernel_rfl) (.free rfl) rfl rfl (qt_orU rfl rfl rfl (by rw [tst_get hT2 (by omega) (by omega) (by omega)]; exact accK_lt _ _) (only_lt _)) (fun _ _ _ h => hKp185 _ _ _ _ h) ?_
                      refine ga_op 11 (by kernel_rfl) rfl (.free rfl) fun K239 hK239 => ?_
                      refine go_v rfl rfl (qt_indexA rfl rfl rfl (fun w M => mem_ownM (m := 5) rfl M) (by omega) (by omega) (by omega) (by omega)) ?_
                      refine hK239 _ _ (fun w M => (mem_erase 5 (mem_take 12 M) :)) ?_
                      refine ga_op 12 (by kernel_rfl) rfl (.free rfl) fun K240 hK240 => ?_
                      refine go_storeM (m := 5) rfl rfl rfl rfl (by kernel_rfl) rfl (by omega) (by omega) (by omega) (by omega) ?_
                      refine hK240 _ _ (fun w M => (mem_erase 5 (mem_take 12 M) :)) ?_
                      refine ga_done (by kernel_rfl) ?_
                      refine gk_block ?_
                      try simp only [List.nil_append, List.cons_append, List.append_assoc, List.set_cons_succ, List.set_cons_zero]
                      refine gk_take 12 ?_
                      refine hKn185 (_) _ ?hi_241
                      case hi_241 => first | exact tst_t hT2 (by omega) p0 p1 (by assumption) | exact tst_f hT2 (by assumption)
                  · refine go_v rfl rfl (qt_indexM rfl rfl rfl (fun w M => mem_ownM (m := 5) rfl M) (by omega) (by omega)) ?_
                    refine hK229 _ _ (fun w M => (mem_erase 5 (mem_take 12 M) :)) ?_
                    refine ga_op 5 (by kernel_rfl) rfl (.free rfl) fun K243 hK243 => ?_
                    refine go_v rfl rfl (qt_indexA rfl rfl rfl (fun w M => mem_ownM (m := 5) rfl M) (by omega) (by omega) (by omega) (by omega)) ?_
                    refine hK243 _ _ (fun w M => (mem_erase 5 (mem_take 12 M) :)) ?_
                    refine ga_op 6 (by kernel_rfl) rfl (.free rfl) fun K244 hK244 => ?_
                    refine go_v rfl rfl (qt_loadM rfl rfl Tryd.underlying86 rfl (fun w M => mem_ownM (m := 5) rfl M) (by omega) (by omega) (by omega) (by omega)) ?_
                    refine hK244 _ _ (fun w M => (mem_erase 5 (mem_take 12 M) :)) ?_
                    refine ga_v 9 rfl (by kernel_rfl) (by kernel_rfl) (by kernel_rfl) (.free rfl) rfl rfl (qt_orU rfl rfl rfl (by rw [tst_get hT2 (by omega) (by omega) (by omega)]; exact accK_lt _ _) (only_lt _)) (fun _ _ _ h => hKp185 _ _ _ _ h) ?_
                    refine ga_op 11 (by kernel_rfl) rfl (.free rfl) fun K245 hK245 => ?_
                    refine go_v rfl rfl (qt_indexA rfl rfl rfl (fun w M => mem_ownM (m := 5) rfl M) (by omega) (by omega) (by omega) (by omega)) ?_
                    refine hK245 _ _ (fun w M => (mem_erase 5 (mem_take 12 M) :)) ?_
                    refine ga_op 12 (by kernel_rfl) rfl (.free rfl) fun K246 hK246 => ?_
                    refine go_storeM (m := 5) rfl rfl rfl rfl (by kernel_rfl) rfl (by omega) (by omega) (by omega) (by omega) ?_
                    refine hK246 _ _ (fun w M => (mem_erase 5 (mem_take 12 M) :)) ?_
                    refine ga_done (by kernel_rfl) ?_
                    refine gk_block ?_
                    try simp only [List.nil_append, List.cons_append, List.append_assoc, List.set_cons_succ, List.set_cons_zero]
                    refine gk_take 12 ?_
                    refine hKn185 (_) _ ?hi_247
                    case hi_247 => first | exact tst_t hT2 (by omega) p0 p1 (by assumption) | exact tst_f hT2 (by assumption)
                · refine go_v rfl rfl (qt_indexM rfl rfl rfl (fun w M => mem_ownM (m := 5) rfl M) (by omega) (by omega)) ?_
                  refine hK189 _ _ (fun w M => (mem_erase 5 (mem_take 12 M) :)) ?_
                  refine ga_two 5 8 (by kernel_rfl) rfl rfl (.free rfl) (.free rfl) (fun K249 hK249 => ?_) (fun K249 hK249 => ?_)
                  · refine go_v rfl rfl (qt_indexA rfl rfl rfl (fun w M => mem_ownM (m := 5) rfl M) (by omega) (by omega) (by omega) (by omega)) ?_
                    refine hK249 _ _ (fun w M => (mem_erase 5 (mem_take 12 M) :)) ?_
                    refine ga_two 6 8 (by kernel_rfl) rfl rfl (.free rfl) (.free rfl) (fun K251 hK251 => ?_) (fun K251 hK251 => ?_)
                    · refine go_v rfl rfl (qt_loadM rfl rfl Tryd.underlying86 rfl (fun w M => mem_ownM (m := 5) rfl M) (by omega) (by omega) (by omega) (by omega)) ?_
                      refine hK251 _ _ (fun w M => (mem_erase 5 (mem_take 12 M) :)) ?_
                      refine ga_op 8 (by kernel_rfl) rfl (.free rfl) fun K253 hK253 => ?_
                      refine go_q rfl rfl (qt_call rfl Tryd.func88 rfl (by decide) rfl (fun w M => only_any w _ (by omega) (by omega))) ?_
                      refine hK253 _ _ (fun w M => (mem_erase 5 (mem_take 12 M) :)) ?_
                      refine ga_v 9 rfl (by kernel_rfl) (by kernel_rfl) (by kernel_rfl) (.free rfl) rfl rfl (qt_orU rfl rfl rfl (by rw [tst_get hT2 (by omega) (by omega) (by omega)]; exact accK_lt _ _) (only_lt _)) (fun _ _ _ h => hKp185 _ _ _ _ h) ?_
                      refine ga_op 11 (by kernel_rfl) rfl (.free rfl) fun K254 hK254 => ?_
                      refine go_v rfl rfl (qt_indexA rfl rfl rfl (fun w M => mem_ownM (m := 5) rfl M) (by omega) (by omega) (by omega) (by omega)) ?_
                      refine hK254 _ _ (fun w M => (mem_erase 5 (mem_take 12 M) :)) ?_
                      refine ga_op 12 (by kernel_rfl) rfl (.free rfl) fun K255 hK255 => ?_
                      refine go_storeM (m := 5) rfl rfl rfl rfl (by kernel_rfl) rfl (by omega) (by omega) (by omega) (by omega) ?_
                      refine hK255 _ _ (fun w M => (mem_erase 5 (mem_take 12 M) :)) ?_
                      refine ga_done (by kernel_rfl) ?_
                      refine gk_block ?_
                      try simp only [List.nil_append, List.cons_append, List.append_assoc, List.set_cons_succ, List.set_cons_zero]
                      refine gk_take 12 ?_
                      refine hKn185 (_) _ ?hi_256
                      case hi_256 => first | exact tst_t hT2 (by omega) p0 p1 (by assumption) | exact tst_f hT2 (by assumption)
                    · refine go_q rfl rfl (qt_call rfl Tryd.func88 rfl (by decide) rfl (fun w M => only_any w _ (by omega) (by omega))) ?_
                      refine hK251 _ _ (fun w M => (mem_erase 5 (mem_take 12 M) :)) ?_
                      refine ga_op 6 (by kernel_rfl) rfl (.free rfl) fun K258 hK258 => ?_
                      refine go_v rfl rfl (qt_loadM rfl rfl Tryd.underlying86 rfl (fun w M => mem_ownM (m := 5) rfl M) (by omega) (by omega) (by omega) (by omega)) ?_
                      refine hK258 _ _ (fun w M => (mem_erase 5 (mem_take 12 M) :)) ?_
                      refine ga_v 9 rfl (by kernel_rfl) (by kernel_rfl) (by kernel_rfl) (.free rfl) rfl rfl (qt_orU rfl rfl rfl (by rw [tst_get hT2 (by omega) (by omega) (by omega)]; exact accK_lt _ _) (only_lt _)) (fun _ _ _ h => hKp185 _ _ _ _ h) ?_
                      refine ga_op 11 (by kernel_rfl) rfl (.free rfl) fun K259 hK259 => ?_
                      refine go_v rfl rfl (qt_indexA rfl rfl rfl (fun w M => mem_ownM (m := 5) rfl M) (by omega) (by omega) (by omega) (by omega)) ?_
                      refine hK259 _ _ (fun w M => (mem_erase 5 (mem_take 12 M) :)) ?_
                      refine ga_op 12 (by kernel_rfl) rfl (.free rfl) fun K260 hK260 => ?_
                      refine go_storeM (m := 5) rfl rfl rfl rfl (by kernel_rfl) rfl (by omega) (by omega) (by omega) (by omega) ?_
                      refine hK260 _ _ (fun w M => (mem_erase 5 (mem_take 12 M) :)) ?_
                      refine ga_done (by kernel_rfl) ?_
                      refine gk_block ?_
                      try simp only [List.nil_append, List.cons_append, List.append_assoc, List.set_cons_succ, List.set_cons_zero]
                      refine gk_take 12 ?_
                      refine hKn185 (_) _ ?hi_261
                      case hi_261 => first | exact tst_t hT2 (by omega) p0 p1 (by assumption) | exact tst_f hT2 (by assumption)
                  · refine go_q rfl rfl (qt_call rfl Tryd.func88 rfl (by decide) rfl (fun w M => only_any w _ (by omega) (by omega))) ?_
                    refine hK249 _ _ (fun w M => (mem_erase 5 (mem_take 12 M) :)) ?_
                    refine ga_op 5 (by kernel_rfl) rfl (.free rfl) fun K263 hK263 => ?_
                    refine go_v rfl rfl (qt_indexA rfl rfl rfl (fun w M => mem_ownM (m := 5) rfl M) (by omega) (by omega) (by omega) (by omega)) ?_
                    refine hK263 _ _ (fun w M => (mem_erase 5 (mem_take 12 M) :)) ?_
                    refine ga_op 6 (by kernel_rfl) rfl (.free rfl) fun K264 hK264 => ?_
                    refine go_v rfl rfl (qt_loadM rfl rfl Tryd.underlying86 rfl (fun w M => mem_ownM (m := 5) rfl M) (by omega) (by omega) (by omega) (by omega)) ?_
                    refine hK264 _ _ (fun w M => (mem_erase 5 (mem_take 12 M) :)) ?_
                    refine ga_v 9 rfl (by kernel_rfl) (by kernel_rfl) (by kernel_rfl) (.free rfl) rfl rfl (qt_orU rfl rfl rfl (by rw [tst_get hT2 (by omega) (by omega) (by omega)]; exact accK_lt _ _) (only_lt _)) (fun _ _ _ h => hKp185 _ _ _ _ h) ?_
                    refine ga_op 11 (by kernel_rfl) rfl (.free rfl) fun K265 hK265 => ?_
                    refine go_v rfl rfl (qt_indexA rfl rfl rfl (fun w M => mem_ownM (m := 5) rfl M) (by omega) (by omega) (by omega) (by omega)) ?_
                    refine hK265 _ _ (fun w M => (mem_erase 5 (mem_take 12 M) :)) ?_
                    refine ga_op 12 (by kernel_rfl) rfl (.free rfl) fun K266 hK266 => ?_
                    refine go_storeM (m := 5) rfl rfl rfl rfl (by kernel_rfl) rfl (by omega) (by omega) (by omega) (by omega) ?_
                    refine hK266 _ _ (fun w M => (mem_erase 5 (mem_take 12 M) :)) ?_
                    refine ga_done (by kernel_rfl) ?_
                    refine gk_block ?_
                    try simp only [List.nil_append, List.cons_append, List.append_assoc, List.set_cons_succ, List.set_cons_zero]
                    refine gk_take 12 ?_
                    refine hKn185 (_) _ ?hi_267
                    case hi_267 => first | exact tst_t hT2 (by omega) p0 p1 (by assumption) | exact tst_f hT2 (by assumption)
              · refine go_q rfl rfl (qt_call rfl Tryd.func88 rfl (by decide) rfl (fun w M => only_any w _ (by omega) (by omega))) ?_
                refine hK187 _ _ (fun w M => (mem_erase 5 (mem_take 12 M) :)) ?_
                refine ga_two 4 10 (by kernel_rfl) rfl rfl (.free rfl) (.free rfl) (fun K269 hK269 => ?_) (fun K269 hK269 => ?_)
                · refine go_v rfl rfl (qt_indexM rfl rfl rfl (fun w M => mem_ownM (m := 5) rfl M) (by omega) (by omega)) ?_
                  refine hK269 _ _ (fun w M => (mem_erase 5 (mem_take 12 M) :)) ?_
                  refine ga_two 5 10 (by kernel_rfl) rfl rfl (.free rfl) (.free rfl) (fun K271 hK271 => ?_) (fun K271 hK271 => ?_)
                  · refine go_v rfl rfl (qt_indexA rfl rfl rfl (fun w M => mem_ownM (m := 5) rfl M) (by omega) (by omega) (by omega) (by omega)) ?_
                    refine hK271 _ _ (fun w M => (mem_erase 5 (mem_take 12 M) :)) ?_
                    refine ga_two 6 10 (by kernel_rfl) rfl rfl (.free rfl) (.free rfl) (fun K273 hK273 => ?_) (fun K273 hK273 => ?_)
                    · refine go_v rfl rfl (qt_loadM rfl rfl Tryd.underlying86 rfl (fun w M => mem_ownM (m := 5) rfl M) (by omega) (by omega) (by omega) (by omega)) ?_
                      refine hK273 _ _ (fun w M => (mem_erase 5 (mem_take 12 M) :)) ?_
                      refine ga_v 9 rfl (by kernel_rfl) (by kernel_rfl) (by kernel_rfl) (.free rfl) rfl rfl (qt_orU rfl rfl rfl (by rw [tst_get hT2 (by omega) (by omega) (by omega)]; exact accK_lt _ _) (only_lt _)) (fun _ _ _ h => hKp185 _ _ _ _ h) ?_
                      refine ga_op 10 (by kernel_rfl) rfl (.free rfl) fun K275 hK275 => ?_
                      refine go_v rfl rfl (qt_indexM rfl rfl rfl (fun w M => mem_ownM (m := 5) rfl M) (by omega) (by omega)) ?_
                      refine hK275 _ _ (fun w M => (mem_erase 5 (mem_take 12 M) :)) ?_
                      refine ga_op 11 (by kernel_rfl) rfl (.free rfl) fun K276 hK276 => ?_
                      refine go_v rfl rfl (qt_indexA rfl rfl rfl (fun w M => mem_ownM (m := 5) rfl M) (by omega) (by omega) (by omega) (by omega)) ?_
                      refine hK276 _ _ (fun w M => (mem_erase 5 (mem_take 12 M) :)) ?_
                      refine ga_op 12 (by kernel_rfl) rfl (.free rfl) fun K277 hK277 => ?_
                      refine go_storeM (m := 5) rfl rfl rfl rfl (by kernel_rfl) rfl (by omega) (by omega) (by omega) (by omega) ?_
                      refine hK277 _ _ (fun w M => (mem_erase 5 (mem_take 12 M) :)) ?_
                      refine ga_done (by kernel_rfl) ?_
                      refine gk_block ?_
                      try simp only [List.nil_append, List.cons_append, List.append_assoc, List.set_cons_succ, List.set_cons_zero]
                      refine gk_take 12 ?_
                      refine hKn185 (_) _ ?hi_278
                      case hi_278 => first | exact tst_t hT2 (by omega) p0 p1 (by assumption) | exact tst_f hT2 (by assumption)
                    · refine go_v rfl rfl (qt_indexM rfl rfl rfl (fun w M => mem_ownM (m := 5) rfl M) (by omega) (by omega)) ?_
                      refine hK273 _ _ (fun w M => (mem_erase 5 (mem_take 12 M) :)) ?_
                      refine ga_op 6 (by kernel_rfl) rfl (.free rfl) fun K280 hK280 => ?_
                      refine go_v rfl rfl (qt_loadM rfl rfl Tryd.underlying86 rfl (fun w M => mem_ownM (m := 5) rfl M) (by omega) (by omega) (by omega) (by omega)) ?_
                      refine hK280 _ _ (fun w M => (mem_erase 5 (mem_take 12 M) :)) ?_
                      refine ga_v 9 rfl (by kernel_rfl) (by kernel_rfl) (by kernel_rfl) (.free rfl) rfl rfl (qt_orU rfl rfl rfl (by rw [tst_get hT2 (by omega) (by omega) (by omega)]; exact accK_lt _ _) (only_lt _)) (fun _ _ _ h => hKp185 _ _ _ _ h) ?_
                      refine ga_op 11 (by kernel_rfl) rfl (.free rfl) fun K281 hK281 => ?_
                      refine go_v rfl rfl (qt_indexA rfl rfl rfl (fun w M => mem_ownM (m := 5) rfl M) (by omega) (by omega) (by omega) (by omega)) ?_
                      refine hK281 _ _ (fun w M => (mem_erase 5 (mem_take 12 M) :)) ?_
                      refine ga_op 12 (by kernel_rfl) rfl (.free rfl) fun K282 hK282 => ?_
                      refine go_storeM (m := 5) rfl rfl rfl rfl (by kernel_rfl) rfl (by omega) (by omega) (by omega) (by omega) ?_
                      refine hK282 _ _ (fun w M => (mem_erase 5 (mem_take 12 M) :)) ?_
                      refine ga_done (by kernel_rfl) ?_
                      refine gk_block ?_
                      try simp only [List.nil_append, List.cons_append, List.append_assoc, List.set_cons_succ, List.set_cons_zero]
                      refine gk_take 12 ?_
                      refine hKn185 (_) _ ?hi_283
                      case hi_283 => first | exact tst_t hT2 (by omega) p0 p1 (by assumption) | exact tst_f hT2 (by assumption)
                  · refine go_v rfl rfl (qt_indexM rfl rfl rfl (fun w M => mem_ownM (m := 5) rfl M) (by omega) (by omega)) ?_
                    refine hK271 _ _ (fun w M => (mem_erase 5 (mem_take 12 M) :)) ?_
                    refine ga_op 5 (by kernel_rfl) rfl (.free rfl) fun K285 hK285 => ?_
                    refine go_v rfl rfl (qt_indexA rfl rfl rfl (fun w M => mem_ownM (m := 5) rfl M) (by omega) (by omega) (by omega) (by omega)) ?_
                    refine hK285 _ _ (fun w M => (mem_erase 5 (mem_take 12 M) :)) ?_
                    refine ga_op 6 (by kernel_rfl) rfl (.free rfl) fun K286 hK286 => ?_
                    refine go_v rfl rfl (qt_loadM rfl rfl Tryd.underlying86 rfl (fun w M => mem_ownM (m := 5) rfl M) (by omega) (by omega) (by omega) (by omega)) ?_
                    refine hK286 _ _ (fun w M => (mem_erase 5 (mem_take 12 M) :)) ?_
                    refine ga_v 9 rfl (by kernel_rfl) (by kernel_rfl) (by kernel_rfl) (.free rfl) rfl rfl (qt_orU rfl rfl rfl (by rw [tst_get hT2 (by omega) (by omega) (by omega)]; exact accK_lt _ _) (only_lt _)) (fun _ _ _ h => hKp185 _ _ _ _ h) ?_
                    refine ga_op 11 (by kernel_rfl) rfl (.free rfl) fun K287 hK287 => ?_
                    refine go_v rfl rfl (qt_indexA rfl rfl rfl (fun w M => mem_ownM (m := 5) rfl M) (by omega) (by omega) (by omega) (by omega)) ?_
                    refine hK287 _ _ (fun w M => (mem_erase 5 (mem_take 12 M) :)) ?_
                    refine ga_op 12 (by kernel_rfl) rfl (.free rfl) fun K288 hK288 => ?_
                    refine go_storeM (m := 5) rfl rfl rfl rfl (by kernel_rfl) rfl (by omega) (by omega) (by omega) (by omega) ?_
                    refine hK288 _ _ (fun w M => (mem_erase 5 (mem_take 12 M) :)) ?_
                    refine ga_done (by kernel_rfl) ?_
                    refine gk_block ?_
                    try simp only [List.nil_append, List.cons_append, List.append_assoc, List.set_cons_succ, List.set_cons_zero]
                    refine gk_take 12 ?_
                    refine hKn185 (_) _ ?hi_289
                    case hi_289 => first | exact tst_t hT2 (by omega) p0 p1 (by assumption) | exact tst_f hT2 (by assumption)
                · refine go_v rfl rfl (qt_indexM rfl rfl rfl (fun w M => mem_ownM (m := 5) rfl M) (by omega) (by omega)) ?_
                  refine hK269 _ _ (fun w M => (mem_erase 5 (mem_take 12 M) :)) ?_
                  refine ga_op 4 (by kernel_rfl) rfl (.free rfl) fun K291 hK291 => ?_
                  refine go_v rfl rfl (qt_indexM rfl rfl rfl (fun w M => mem_ownM (m := 5) rfl M) (by omega) (by omega)) ?_
                  refine hK291 _ _ (fun w M => (mem_erase 5 (mem_take 12 M) :)) ?_
                  refine ga_op 5 (by kernel_rfl) rfl (.free rfl) fun K292 hK292 => ?_
                  refine go_v rfl rfl (qt_indexA rfl rfl rfl (fun w M => mem_ownM (m := 5) rfl M) (by omega) (by omega) (by omega) (by omega)) ?_
                  refine hK292 _ _ (fun w M => (mem_erase 5 (mem_take 12 M) :)) ?_
                  refine ga_op 6 (by kernel_rfl) rfl (.free rfl) fun K293 hK293 => ?_
                  refine go_v rfl rfl (qt_loadM rfl rfl Tryd.underlying86 rfl (fun w M => mem_ownM (m := 5) rfl M) (by omega) (by omega) (by omega) (by omega)) ?_
                  refine hK293 _ _ (fun w M => (mem_erase 5 (mem_take 12 M) :)) ?_
                  refine ga_v 9 rfl (by kernel_rfl) (by kernel_rfl) (by kernel_rfl) (.free rfl) rfl rfl (qt_orU rfl rfl rfl (by rw [tst_get hT2 (by omega) (by omega) (by omega)]; exact accK_lt _ _) (only_lt _)) (fun _ _ _ h => hKp185 _ _ _ _ h) ?_
                  refine ga_op 11 (by kernel_rfl) rfl (.free rfl) fun K294 hK294 => ?_
                  refine go_v rfl rfl (qt_indexA rfl rfl rfl (fun w M => mem_ownM (m := 5) rfl M) (by omega) (by omega) (by omega) (by omega)) ?_
                  refine hK294 _ _ (fun w M => (mem_erase 5 (mem_take 12 M) :)) ?_
                  refine ga_op 12 (by kernel_rfl) rfl (.free rfl) fun K295 hK295 => ?_
                  refine go_storeM (m := 5) rfl rfl rfl rfl (by kernel_rfl) rfl (by omega) (by omega) (by omega) (by omega) ?_
                  refine hK295 _ _ (fun w M => (mem_erase 5 (mem_take 12 M) :)) ?_
                  refine ga_done (by kernel_rfl) ?_
                  refine gk_block ?_
                  try simp only [List.nil_append, List.cons_append, List.append_assoc, List.set_cons_succ, List.set_cons_zero]
                  refine gk_take 12 ?_
                  refine hKn185 (_) _ ?hi_296
                  case hi_296 => first | exact tst_t hT2 (by omega) p0 p1 (by assumption) | exact tst_f hT2 (by assumption)
              · refine go_v rfl rfl (qt_indexM rfl rfl rfl (fun w M => mem_ownM (m := 5) rfl M) (by omega) (by omega)) ?_
                refine hK187 _ _ (fun w M => (mem_erase 5 (mem_take 12 M) :)) ?_
                refine ga_two 4 8 (by kernel_rfl) rfl rfl (.free rfl) (.free rfl) (fun K298 hK298 => ?_) (fun K298 hK298 => ?_)
                · refine go_v rfl rfl (qt_indexM rfl rfl rfl (fun w M => mem_ownM (m := 5) rfl M) (by omega) (by omega)) ?_
                  refine hK298 _ _ (fun w M => (mem_erase 5 (mem_take 12 M) :)) ?_
                  refine ga_two 5 8 (by kernel_rfl) rfl rfl (.free rfl) (.free rfl) (fun K300 hK300 => ?_) (fun K300 hK300 => ?_)
                  · refine go_v rfl rfl (qt_indexA rfl rfl rfl (fun w M => mem_ownM (m := 5) rfl M) (by omega) (by omega) (by omega) (by omega)) ?_
                    refine hK300 _ _ (fun w M => (mem_erase 5 (mem_take 12 M) :)) ?_
                    refine ga_two 6 8 (by kernel_rfl) rfl rfl (.free rfl) (.free rfl) (fun K302 hK302 => ?_) (fun K302 hK302 => ?_)
                    · refine go_v rfl rfl (qt_loadM rfl rfl Tryd.underlying86 rfl (fun w M => mem_ownM (m := 5) rfl M) (by omega) (by omega) (by omega) (by omega)) ?_
                      refine hK302 _ _ (fun w M => (mem_erase 5 (mem_take 12 M) :)) ?_
                      refine ga_op 8 (by kernel_rfl) rfl (.free rfl) fun K304 hK304 => ?_
                      refine go_q rfl rfl (qt_call rfl Tryd.func88 rfl (by decide) rfl (fun w M => only_any w _ (by omega) (by omega))) ?_
                      refine hK304 _ _ (fun w M => (mem_erase 5 (mem_take 12 M) :)) ?_
                      refine ga_v 9 rfl (by kernel_rfl) (by kernel_rfl) (by kernel_rfl) (.free rfl) rfl rfl (qt_orU rfl rfl rfl (by rw [tst_get hT2 (by omega) (by omega) (by omega)]; exact accK_lt _ _) (only_lt _)) (fun _ _ _ h => hKp185 _ _ _ _ h) ?_
                      refine ga_op 11 (by kernel_rfl) rfl (.free rfl) fun K305 hK305 => ?_
                      refine go_v rfl rfl (qt_indexA rfl rfl rfl (fun w M => mem_ownM (m := 5) rfl M) (by omega) (by omega) (by omega) (by omega)) ?_
                      refine hK305 _ _ (fun w M => (mem_erase 5 (mem_take 12 M) :)) ?_
                      refine ga_op 12 (by kernel_rfl) rfl (.free rfl) fun K306 hK306 => ?_
                      refine go_storeM (m := 5) rfl rfl rfl rfl (by kernel_rfl) rfl (by omega) (by omega) (by omega) (by omega) ?_
                      refine hK306 _ _ (fun w M => (mem_erase 5 (mem_take 12 M) :)) ?_
                      refine ga_done (by kernel_rfl) ?_
                      refine gk_block ?_
                      try simp only [List.nil_append, List.cons_append, List.append_assoc, List.set_cons_succ, List.set_cons_zero]
                      refine gk_take 12 ?_
                      refine hKn185 (_) _ ?hi_307
                      case hi_307 => first | exact tst_t hT2 (by omega) p0 p1 (by assumption) | exact tst_f hT2 (by assumption)
                    · refine go_q rfl rfl (qt_call rfl Tryd.func88 rfl (by decide) rfl (fun w M => only_any w _ (by omega) (by omega))) ?_
                      refine hK302 _ _ (fun w M => (mem_erase 5 (mem_take 12 M) :)) ?_
                      refine ga_op 6 (by kernel_rfl) rfl (.free rfl) fun K309 hK309 => ?_
                      refine go_v rfl rfl (qt_loadM rfl rfl Tryd.underlying86 rfl (fun w M => mem_ownM (m := 5) rfl M) (by omega) (by omega) (by omega) (by omega)) ?_
                      refine hK309 _ _ (fun w M => (mem_erase 5 (mem_take 12 M) :)) ?_
                      refine ga_v 9 rfl (by kernel_rfl) (by kernel_rfl) (by kernel_rfl) (.free rfl) rfl rfl (qt_orU rfl rfl rfl (by rw [tst_get hT2 (by omega) (by omega) (by omega)]; exact accK_lt _ _) (only_lt _)) (fun _ _ _ h => hKp185 _ _ _ _ h) ?_
                      refine ga_op 11 (by kernel_rfl) rfl (.free rfl) fun K310 hK310 => ?_
                      refine go_v rfl rfl (qt_indexA rfl rfl rfl (fun w M => mem_ownM (m := 5) rfl M) (by omega) (by omega) (by omega) (by omega)) ?_
                      refine hK310 _ _ (fun w M => (mem_erase 5 (mem_take 12 M) :)) ?_
                      refine ga_op 12 (by kernel_rfl) rfl (.free rfl) fun K311 hK311 => ?_
                      refine go_storeM (m := 5) rfl rfl rfl rfl (by kernel_rfl) rfl (by omega) (by omega) (by omega) (by omega) ?_
                      refine hK311 _ _ (fun w M => (mem_erase 5 (mem_take 12 M) :)) ?_
                      refine ga_done (by kernel_rfl) ?_
                      refine gk_block ?_
                      try simp only [List.nil_append, List.cons_append, List.append_assoc, List.set_cons_succ, List.set_cons_zero]
                      refine gk_take 12 ?_
                      refine hKn185 (_) _ ?hi_312
                      case hi_312 => first | exact tst_t hT2 (by omega) p0 p1 (by assumption) | exact tst_f hT2 (by assumption)
                  · refine go_q rfl rfl (qt_call rfl Tryd.func88 rfl (by decide) rfl (fun w M => only_any w _ (by omega) (by omega))) ?_
                    refine hK300 _ _ (fun w M => (mem_erase 5 (mem_take 12 M) :)) ?_
                    refine ga_op 5 (by kernel_rfl) rfl (.free rfl) fun K314 hK314 => ?_
                    refine go_v rfl rfl (qt_indexA rfl rfl rfl (fun w M => mem_ownM (m := 5) rfl M) (by omega) (by omega) (by omega) (by omega)) ?_
                    refine hK314 _ _ (fun w M => (mem_erase 5 (mem_take 12 M) :)) ?_
                    refine ga_op 6 (by kernel_rfl) rfl (.free rfl) fun K315 hK315 => ?_
                    refine go_v rfl rfl (qt_loadM rfl rfl Tryd.underlying86 rfl (fun w M => mem_ownM (m := 5) rfl M) (by omega) (by omega) (by omega) (by omega)) ?_
                    refine hK315 _ _ (fun w M => (mem_erase 5 (mem_take 12 M) :)) ?_
                    refine ga_v 9 rfl (by kernel_rfl) (by kernel_rfl) (by kernel_rfl) (.free rfl) rfl rfl (qt_orU rfl rfl rfl (by rw [tst_get hT2 (by omega) (by omega) (by omega)]; exact accK_lt _ _) (only_lt _)) (fun _ _ _ h => hKp185 _ _ _ _ h) ?_
                    refine ga_op 11 (by kernel_rfl) rfl (.free rfl) fun K316 hK316 => ?_
                    refine go_v rfl rfl (qt_indexA rfl rfl rfl (fun w M => mem_ownM (m := 5) rfl M) (by omega) (by omega) (by omega) (by omega)) ?_
                    refine hK316 _ _ (fun w M => (mem_erase 5 (mem_take 12 M) :)) ?_
                    refine ga_op 12 (by kernel_rfl) rfl (.free rfl) fun K317 hK317 => ?_
                    refine go_storeM (m := 5) rfl rfl rfl rfl (by kernel_rfl) rfl (by omega) (by omega) (by omega) (by omega) ?_
                    refine hK317 _ _ (fun w M => (mem_erase 5 (mem_take 12 M) :)) ?_
                    refine ga_done (by kernel_rfl) ?_
                    refine gk_block ?_
                    try simp only [List.nil_append, List.cons_append, List.append_assoc, List.set_cons_succ, List.set_cons_zero]
                    refine gk_take 12 ?_
                    refine hKn185 (_) _ ?hi_318
                    case hi_318 => first | exact tst_t hT2 (by omega) p0 p1 (by assumption) | exact tst_f hT2 (by assumption)
                · refine go_q rfl rfl (qt_call rfl Tryd.func88 rfl (by decide) rfl (fun w M => only_any w _ (by omega) (by omega))) ?_
                  refine hK298 _ _ (fun w M => (mem_erase 5 (mem_take 12 M) :)) ?_
                  refine ga_op 4 (by kernel_rfl) rfl (.free rfl) fun K320 hK320 => ?_
                  refine go_v rfl rfl (qt_indexM rfl rfl rfl (fun w M => mem_ownM (m := 5) rfl M) (by omega) (by omega)) ?_
                  refine hK320 _ _ (fun w M => (mem_erase 5 (mem_take 12 M) :)) ?_
                  refine ga_op 5 (by kernel_rfl) rfl (.free rfl) fun K321 hK321 => ?_
                  refine go_v rfl rfl (qt_indexA rfl rfl rfl (fun w M => mem_ownM (m := 5) rfl M) (by omega) (by omega) (by omega) (by omega)) ?_
                  refine hK321 _ _ (fun w M => (mem_erase 5 (mem_take 12 M) :)) ?_
                  refine ga_op 6 (by kernel_rfl) rfl (.free rfl) fun K322 hK322 => ?_
                  refine go_v rfl rfl (qt_loadM rfl rfl Tryd.underlying86 rfl (fun w M => mem_ownM (m := 5) rfl M) (by omega) (by omega) (by omega) (by omega)) ?_
                  refine hK322 _ _ (fun w M => (mem_erase 5 (mem_take 12 M) :)) ?_
                  refine ga_v 9 rfl (by kernel_rfl) (by kernel_rfl) (by kernel_rfl) (.free rfl) rfl rfl (qt_orU rfl rfl rfl (by rw [tst_get hT2 (by omega) (by omega) (by omega)]; exact accK_lt _ _) (only_lt _)) (fun _ _ _ h => hKp185 _ _ _ _ h) ?_
                  refine ga_op 11 (by kernel_rfl) rfl (.free rfl) fun K323 hK323 => ?_
                  refine go_v rfl rfl (qt_indexA rfl rfl rfl (fun w M => mem_ownM (m := 5) rfl M) (by omega) (by omega) (by omega) (by omega)) ?_
                  refine hK323 _ _ (fun w M => (mem_erase 5 (mem_take 12 M) :)) ?_
                  refine ga_op 12 (by kernel_rfl) rfl (.free rfl) fun K324 hK324 => ?_
                  refine go_storeM (m := 5) rfl rfl rfl rfl (by kernel_rfl) rfl (by omega) (by omega) (by omega) (by omega) ?_
                  refine hK324 _ _ (fun w M => (mem_erase 5 (mem_take 12 M) :)) ?_
                  refine ga_done (by kernel_rfl) ?_
                  refine gk_block ?_
                  try simp only [List.nil_append, List.cons_append, List.append_assoc, List.set_cons_succ, List.set_cons_zero]
                  refine gk_take 12 ?_
                  refine hKn185 (_) _ ?hi_325
                  case hi_325 => first | exact tst_t hT2 (by omega) p0 p1 (by assumption) | exact tst_f hT2 (by assumption)
            · try simp only [decide_eq_true_eq, decide_eq_false_iff_not, Bool.not_eq_true', Bool.not_eq_false', Bool.not_eq_eq_eq_not, Bool.not_true, Bool.not_false, ne_eq, Decidable.not_not, Classical.not_not] at hc3
              refine gc_skip ?_
              refine gk_block ?_
              try simp only [List.nil_append, List.cons_append, List.append_assoc, List.set_cons_succ, List.set_cons_zero]
              refine gk_take 12 ?_
              refine hKn185 (_) _ ?hi_326
              case hi_326 => first | exact tst_t hT2 (by omega) p0 p1 (by assumption) | exact tst_f hT2 (by assumption)
          · rintro xs fs2 hL hinv
            simp only [updL, List.foldl_cons, List.foldl_nil, List.take_succ_cons, List.take_zero, List.drop_succ_cons, List.drop_zero, List.set_cons_succ, List.set_cons_zero, List.cons_append, List.nil_append] at *
            have hT2 := hinv
            rw [map_id'] at hL
            subst hL
            refine gk_block ?_
            refine gk_block ?_
            try simp only [List.nil_append, List.cons_append, List.append_assoc, List.set_cons_succ, List.set_cons_zero]
            refine gk_take 10 ?_
            refine hKn29 ((q ++ [p], _)) _ ?hi_327
            case hi_327 => exact ⟨rfl, tst_end hT2 p0 (by first | exact ent_t (by assumption) | exact ent_f (by assumption))⟩
          · rintro pre fs2 hL hinv; exact absurd hinv (by simp)
          · rintro id pre fs2 hL hinv; exact absurd hinv (by simp)
      · rintro D29 xs ⟨q, fs1⟩ hL hinv
        simp only [updL, List.foldl_cons, List.foldl_nil, List.take_succ_cons, List.take_zero, List.drop_succ_cons, List.drop_zero, List.set_cons_succ, List.set_cons_zero, List.cons_append, List.nil_append] at *
        obtain ⟨rfl, hT1⟩ := hinv
        rw [map_id'] at hL
        subst hL
        have hTn := hT1
        refine gk_block ?_
        refine gk_block ?_
        refine gk_then (hK17 _ _ ?_)
        refine gc_region ?_
        refine g_v (.free rfl) rfl rfl (qt_add rfl rfl rfl (by omega)) ?_
        refine g_v (.free rfl) rfl rfl (qt_move rfl rfl) ?_
        refine g_nil ?_
        refine gk_then (gk_take 7 ?_)
        refine gk_sub ?hs_328 (hKL14 (k + 1, _, D29 :: Ds) ?hi_328 ?hm_328)
        case hs_328 => exact (sub_cons rfl (sub_cons rfl (sub_cons rfl (sub_cons rfl (sub_cons rfl (sub_cons rfl (sub_cons rfl (sub_cons rfl (sub_cons rfl (sub_cons rfl sub_nil))))))))))
        case hi_328 => exact ⟨by omega, tst_next hTn⟩
        case hm_328 => omega
      · rintro D29 pre ⟨q, fs1⟩ hL hinv; exact absurd hinv (by simp)
      · rintro D29 id pre ⟨q, fs1⟩ hL hinv; exact absurd hinv (by simp)
    · try simp only [decide_eq_true_eq, decide_eq_false_iff_not, Bool.not_eq_true', Bool.not_eq_false', Bool.not_eq_eq_eq_not, Bool.not_true, Bool.not_false, ne_eq, Decidable.not_not, Classical.not_not] at hc0
      refine gc_exit ?_
      refine gk_then_exit ?_
      refine gk_then_exit ?_
      refine gk_block_hit ?_
      refine gk_then (hK12 _ _ ?_)
      refine gc_seqD fun K329 hK329 => ?_
      refine gc_region ?_
      refine g_v (.free rfl) rfl rfl (qt_loadS (n := 6) rfl rfl Tryd.underlying98 rfl (by kernel_rfl) rfl) ?_
      refine g_op (.free rfl) fun K330 hK330 => ?_
      refine go_storeS (n := 4) rfl rfl rfl rfl (by kernel_rfl) rfl rfl rfl ?_
      refine hK330 _ _ ?_
      refine g_nil ?_
      refine gk_then (hK329 _ _ ?_)
      refine gc_ret ?_
      try simp only [List.nil_append, List.cons_append, List.append_assoc, List.set_cons_succ, List.set_cons_zero]
      refine gk_marks (n := 0) rfl rfl ?_
      simp only [List.set_cons_zero, List.set_cons_succ]
      refine ret_S (n := 4) rfl rfl Tryd.underlying98 rfl (by kernel_rfl) rfl (fun w M => ?_)
      obtain rfl : k = c.s.length := by omega
      exact ⟨_, _, rfl, tst_ok hT0, mem_ownMo (m := 5) M rfl, M.1⟩
  simp only [updL, List.foldl_cons, List.foldl_nil, List.set_cons_succ, List.set_cons_zero, List.cons_append, List.nil_append] at HJ11
  refine ga_start _ (fun w M => M) ?_
  refine ga_v 0 rfl (by kernel_rfl) (by kernel_rfl) (by kernel_rfl) (.free rfl) rfl rfl (qt_loadS (n := 1) rfl rfl Tryd.underlying30 rfl (by kernel_rfl) rfl) (fun _ _ _ h => h) ?_
  refine ga_v 1 rfl (by kernel_rfl) (by kernel_rfl) (by kernel_rfl) (.free rfl) rfl rfl (qt_loadS (n := 1) rfl rfl Tryd.underlying30 rfl (by kernel_rfl) rfl) (fun _ _ _ h => h) ?_
  refine ga_two 2 5 (by kernel_rfl) rfl rfl (.free rfl) (.free rfl) (fun K331 hK331 => ?_) (fun K331 hK331 => ?_)
  · refine go_q rfl rfl (qt_call rfl Tryd.func40 rfl (by decide) rfl (fun w M => arrows_any w _ _ (mem_rdC M h))) ?_
    refine hK331 _ _ (fun w M => (mem_take 5 M :)) ?_
    refine ga_two 3 5 (by kernel_rfl) rfl rfl (.free rfl) (.free rfl) (fun K333 hK333 => ?_) (fun K333 hK333 => ?_)
    · refine go_makeM rfl rfl rfl rfl rfl (by omega) ?_
      intro B334
      refine hK333 _ _ (fun w M => (mem_take 5 M :)) ?_
      refine ga_v 4 rfl (by kernel_rfl) (by kernel_rfl) (by kernel_rfl) (.free rfl) rfl rfl (qt_build rfl rfl bt_squareTable) (fun _ _ _ h => h) ?_
      refine ga_op 5 (by kernel_rfl) rfl (.free rfl) fun K337 hK337 => ?_
      refine go_alloc (z := (.agg #[.int .i64 0, .slice none 0 0, .slice none 0 0, .slice none 0 0, .slice none 0 0, .slice none 0 0])) (cs := [.int .i64 0, .slice none 0 0, .slice none 0 0, .slice none 0 0, .slice none 0 0, .slice none 0 0]) rfl rfl rfl (fun w => by kernel_rfl) rfl ?_
      intro B336
      refine hK337 _ _ (fun w M => (mem_take 5 M :)) ?_
      refine ga_op 6 (by kernel_rfl) rfl (.free rfl) fun K338 hK338 => ?_
      refine go_storeS (n := 6) rfl rfl rfl rfl (by kernel_rfl) rfl rfl rfl ?_
      refine hK338 _ _ (fun w M => (mem_take 5 M :)) ?_
      refine ga_done (by kernel_rfl) ?_
      try simp only [List.nil_append, List.cons_append, List.append_assoc, List.set_cons_succ, List.set_cons_zero]
      refine gk_pickL [0, 0, 0, 0, 0, 0, 0] ?_
      refine gk_sub ?hs_339 (HJ11 (_, _))
      case hs_339 => exact (sub_cons rfl (sub_cons rfl (sub_cons rfl (sub_cons rfl (sub_cons rfl (sub_cons rfl (sub_cons rfl (sub_cons rfl sub_nil))))))))
    · refine go_alloc (z := (.agg #[.int .i64 0, .slice none 0 0, .slice none 0 0, .slice none 0 0, .slice none 0 0, .slice none 0 0])) (cs := [.int .i64 0, .slice none 0 0, .slice none 0 0, .slice none 0 0, .slice none 0 0, .slice none 0 0]) rfl rfl rfl (fun w => by kernel_rfl) rfl ?_
      intro B340
      refine hK333 _ _ (fun w M => (mem_take 5 M :)) ?_
      refine ga_op 3 (by kernel_rfl) rfl (.free rfl) fun K343 hK343 => ?_
      refine go_makeM rfl rfl rfl rfl rfl (by omega) ?_
      intro B342
      refine hK343 _ _ (fun w M => (mem_take 5 M :)) ?_
      refine ga_v 4 rfl (by kernel_rfl) (by kernel_rfl) (by kernel_rfl) (.free rfl) rfl rfl (qt_build rfl rfl bt_squareTable) (fun _ _ _ h => h) ?_
      refine ga_op 6 (by kernel_rfl) rfl (.free rfl) fun K344 hK344 => ?_
      refine go_storeS (n := 5) rfl rfl rfl rfl (by kernel_rfl) rfl rfl rfl ?_
      refine hK344 _ _ (fun w M => (mem_take 5 M :)) ?_
      refine ga_done (by kernel_rfl) ?_
      try simp only [List.nil_append, List.cons_append, List.append_assoc, List.set_cons_succ, List.set_cons_zero]
      refine gk_pickL [0, 0, 0, 0, 0, 1, 0] ?_
      refine gk_sub ?hs_345 (HJ11 (_, _))
      case hs_345 => exact (sub_cons rfl (sub_cons rfl (sub_cons rfl (sub_cons rfl (sub_cons rfl (sub_cons rfl (sub_cons rfl (sub_cons rfl sub_nil))))))))
  · refine go_alloc (z := (.agg #[.int .i64 0, .slice none 0 0, .slice none 0 0, .slice none 0 0, .slice none 0 0, .slice none 0 0])) (cs := [.int .i64 0, .slice none 0 0, .slice none 0 0, .slice none 0 0, .slice none 0 0, .slice none 0 0]) rfl rfl rfl (fun w => by kernel_rfl) rfl ?_
    intro B346
    refine hK331 _ _ (fun w M => (mem_take 5 M :)) ?_
    refine ga_op 2 (by kernel_rfl) rfl (.free rfl) fun K348 hK348 => ?_
    refine go_q rfl rfl (qt_call rfl Tryd.func40 rfl (by decide) rfl (fun w M => arrows_any w _ _ (mem_rdC M h))) ?_
    refine hK348 _ _ (fun w M => (mem_take 5 M :)) ?_
    refine ga_op 3 (by kernel_rfl) rfl (.free rfl) fun K350 hK350 => ?_
    refine go_makeM rfl rfl rfl rfl rfl (by omega) ?_
    intro B349
    refine hK350 _ _ (fun w M => (mem_take 5 M :)) ?_
    refine ga_v 4 rfl (by kernel_rfl) (by kernel_rfl) (by kernel_rfl) (.free rfl) rfl rfl (qt_build rfl rfl bt_squareTable) (fun _ _ _ h => h) ?_
    refine ga_op 6 (by kernel_rfl) rfl (.free rfl) fun K351 hK351 => ?_
    refine go_storeS (n := 5) rfl rfl rfl rfl (by kernel_rfl) rfl rfl rfl ?_
    refine hK351 _ _ (fun w M => (mem_take 5 M :)) ?_
    refine ga_done (by kernel_rfl) ?_
    try simp only [List.nil_append, List.cons_append, List.append_assoc, List.set_cons_succ, List.set_cons_zero]
    refine gk_pickL [0, 0, 0, 0, 0, 1, 0] ?_
    refine gk_sub ?hs_352 (HJ11 (_, _))
    case hs_352 => exact (sub_cons rfl (sub_cons rfl (sub_cons rfl (sub_cons rfl (sub_cons rfl (sub_cons rfl (sub_cons rfl (sub_cons rfl sub_nil))))))))
end Go.Proofs.YtfnneogadciimaaDoor
