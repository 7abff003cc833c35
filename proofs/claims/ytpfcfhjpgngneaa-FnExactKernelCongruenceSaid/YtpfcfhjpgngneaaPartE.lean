
/- A partition by labels that are entries: the program's, and what it is. -/
import Derived.Test.YtpfcfhjpgngneaaEntM
import Derived.Test.YtpfcfhjpgngneaaEnts
import Derived.Test.YtpfcfhjpgngneaaCong2
import Derived.Test.YtpfcfhjpgngneaaAsk
set_option linter.unusedSimpArgs false
set_option linter.unusedVariables false
set_option linter.unusedSectionVars false
namespace Go.Proofs.Ytpfcfhjpgngneaa
open Go.RowKit


section
variable {α : Type} [DecidableEq α]
def seenE (l : List (Ent α)) : List (Ent α) := l.foldl (fun s x => if x ∈ s then s else s ++ [x]) []
theorem seenE_snoc (l : List (Ent α)) (x : Ent α) : seenE (l ++ [x]) = if x ∈ seenE l then seenE l else seenE l ++ [x] := by
  unfold seenE; rw [List.foldl_append]; rfl
theorem seenE_pre : ∀ (l s : List (Ent α)), ∃ t, l.foldl (fun s x => if x ∈ s then s else s ++ [x]) s = s ++ t
  | [], s => ⟨[], by simp⟩
  | x :: l, s => by
    obtain ⟨t, ht⟩ := seenE_pre l (if x ∈ s then s else s ++ [x])
    rw [List.foldl_cons, ht]
    by_cases h : x ∈ s
    · rw [if_pos h]; exact ⟨t, rfl⟩
    · rw [if_neg h]; exact ⟨x :: t, by simp⟩
theorem seenE_take (es : List (Ent α)) (k : Nat) : ∃ t, seenE es = seenE (es.take k) ++ t := by
  obtain ⟨t, ht⟩ := seenE_pre (es.drop k) (seenE (es.take k))
  refine ⟨t, ?_⟩
  rw [← ht]; unfold seenE; rw [← List.foldl_append, List.take_append_drop]
theorem mem_seenE : ∀ (l : List (Ent α)) (x : Ent α) (s : List (Ent α)), x ∈ l.foldl (fun s x => if x ∈ s then s else s ++ [x]) s ↔ x ∈ s ∨ x ∈ l
  | [], x, s => by simp
  | y :: l, x, s => by
    rw [List.foldl_cons, mem_seenE l x]
    by_cases h : y ∈ s
    · rw [if_pos h, List.mem_cons]
      exact ⟨fun h' => h'.imp id .inr, fun h' => h'.elim .inl fun h' => h'.elim (fun e => .inl (e ▸ h)) .inr⟩
    · rw [if_neg h, List.mem_append, List.mem_singleton, List.mem_cons]
      exact ⟨fun h' => h'.elim (fun h' => h'.imp id .inl) fun h' => .inr (.inr h'), fun h' => h'.elim (fun h' => .inl (.inl h')) fun h' => h'.elim (fun e => .inl (.inr e)) .inr⟩
theorem mem_seenE0 {l : List (Ent α)} {x : Ent α} : x ∈ seenE l ↔ x ∈ l := by unfold seenE; rw [mem_seenE]; simp
end
/-- The number of an entry: the place at which it is new. -/
noncomputable def numE (es : List (Ent Int)) (e : Ent Int) : Int := posE (seenE es) e
noncomputable def clsE (es : List (Ent Int)) : List Int := tabTo (fun j => numE es (atE es (j : Int))) es.length
theorem posE_pre {s t : List (Ent Int)} {e : Ent Int} (h : e ∈ s) : posE (s ++ t) e = posE s e := by
  unfold posE
  rw [if_pos h, if_pos (List.mem_append_left _ h), List.idxOf_append, if_pos h]
theorem numE_old {es : List (Ent Int)} {k : Nat} {e : Ent Int} (h : e ∈ seenE (es.take k)) : numE es e = posE (seenE (es.take k)) e := by
  obtain ⟨t, ht⟩ := seenE_take es k
  unfold numE; rw [ht, posE_pre h]
theorem takeE_snoc {es : List (Ent Int)} {k : Nat} (hk : k < es.length) : es.take (k + 1) = es.take k ++ [atE es (k : Int)] := (takeE_succ hk).symm
theorem seenE_t {es : List (Ent Int)} {k : Nat} (hk : k < es.length) (h : atE es (k : Int) ∉ seenE (es.take k)) : seenE (es.take (k + 1)) = seenE (es.take k) ++ [atE es (k : Int)] := by rw [takeE_snoc hk, seenE_snoc, if_neg h]
theorem seenE_f {es : List (Ent Int)} {k : Nat} (hk : k < es.length) (h : atE es (k : Int) ∈ seenE (es.take k)) : seenE (es.take (k + 1)) = seenE (es.take k) := by rw [takeE_snoc hk, seenE_snoc, if_pos h]
theorem seenE_t2 {es : List (Ent Int)} {k : Nat} (hk : k < es.length) (h : atE es (k : Int) ∉ seenE (es.take k)) : seenE (es.take k) ++ [((atE es (k : Int)).1, (atE es (k : Int)).2.1, (atE es (k : Int)).2.2)] = seenE (es.take (k + 1)) := (seenE_t hk h).symm
theorem numE_new {es : List (Ent Int)} {k : Nat} (hk : k < es.length) (h : atE es (k : Int) ∉ seenE (es.take k)) : numE es (atE es (k : Int)) = ((seenE (es.take k)).length : Int) := by
  have hm : atE es (k : Int) ∈ seenE (es.take (k + 1)) := by rw [seenE_t hk h]; simp
  rw [numE_old hm, seenE_t hk h]
  unfold posE
  rw [if_pos (by simp), List.idxOf_append, if_neg h]
  simp
theorem numE_rng {es : List (Ent Int)} {k : Nat} {e : Ent Int} (h : e ∈ seenE (es.take k)) : 0 ≤ numE es e ∧ numE es e < ((seenE (es.take k)).length : Int) := by
  rw [numE_old h]; unfold posE; rw [if_pos h]
  have := List.idxOf_lt_length_of_mem h
  omega
theorem numE_inj {es : List (Ent Int)} {e f : Ent Int} (he : e ∈ es) (hf : f ∈ es) (h : numE es e = numE es f) : e = f := by
  have he := mem_seenE0.2 he; have hf := mem_seenE0.2 hf
  unfold numE posE at h
  rw [if_pos he, if_pos hf] at h
  have h : (seenE es).idxOf e = (seenE es).idxOf f := by omega
  have h1 := List.getElem_idxOf (List.idxOf_lt_length_of_mem he); have h2 := List.getElem_idxOf (List.idxOf_lt_length_of_mem hf)
  rw [← h1, ← h2]; simp only [h]
theorem clsE_len (es : List (Ent Int)) : (clsE es).length = es.length := tabTo_len _ _
theorem clsE_at {es : List (Ent Int)} {k : Nat} (h : k < es.length) : (clsE es).getD k 0 = numE es (atE es (k : Int)) := by rw [← at0_nat]; exact tabTo_at _ h
theorem clsE_seen (es : List (Ent Int)) : ∀ k, k ≤ es.length → seenOf ((clsE es).take k) = upTo 0 (seenE (es.take k)).length := by
  intro k
  induction k with
  | zero => intro _; simp [seenOf, seenE, upTo]
  | succ k ih =>
    intro hk
    have h := ih (by omega)
    rw [take_snoc (by rw [clsE_len]; omega), seenOf_snoc, h, clsE_at (by omega)]
    by_cases hm : atE es (k : Int) ∈ seenE (es.take k)
    · have hr := numE_rng hm
      rw [if_pos (mem_upTo hr.1 hr.2), seenE_f (by omega) hm]
    · rw [numE_new (by omega) hm, if_neg (not_mem_upTo (.inr (Int.le_refl _))), seenE_t (by omega) hm, List.length_append, ← upTo_succ]; rfl
theorem idx_upTo {m : Nat} {x : Int} (h0 : 0 ≤ x) (h1 : x < m) : ((upTo 0 m).idxOf x : Int) = x := by
  have hm := mem_upTo h0 h1
  have hl := List.idxOf_lt_length_of_mem hm
  have h := List.getElem_idxOf hl
  simp only [upTo, List.getElem_map, List.getElem_range] at h
  simp only [upTo]; omega
theorem clsE_proper (es : List (Ent Int)) : clsE es = clsOf (clsE es) := by
  refine List.ext_getElem (by rw [clsOf_len]) fun k h1 h2 => ?_
  rw [clsE_len] at h1
  have e1 : (clsE es)[k]'(by rw [clsE_len]; exact h1) = (clsE es).getD k 0 := by rw [List.getD_eq_getElem?_getD, List.getElem?_eq_getElem (by rw [clsE_len]; exact h1)]; rfl
  have e2 : (clsOf (clsE es))[k]'h2 = (clsOf (clsE es)).getD k 0 := by rw [List.getD_eq_getElem?_getD, List.getElem?_eq_getElem h2]; rfl
  rw [e1, e2, clsOf_getD (by rw [clsE_len]; exact h1), clsE_seen es k (by omega), clsE_at h1]
  by_cases hm : atE es (k : Int) ∈ seenE (es.take k)
  · have hr := numE_rng hm
    exact (idx_upTo hr.1 hr.2).symm
  · rw [numE_new h1 hm, List.idxOf_eq_length (not_mem_upTo (.inr (Int.le_refl _))), upTo_length]
theorem clsE_eq {es : List (Ent Int)} {i j : Nat} (hi : i < es.length) (hj : j < es.length) : (clsE es).getD i 0 = (clsE es).getD j 0 ↔ atE es (i : Int) = atE es (j : Int) := by
  rw [clsE_at hi, clsE_at hj]
  exact ⟨fun h => numE_inj (atE_mem hi) (atE_mem hj) h, fun h => by rw [h]⟩
theorem clsE_count (es : List (Ent Int)) : (lstL (clsE es) (nC (clsE es) (clsE es).length)).length = (seenE es).length := by
  rw [lstL_len]
  show (seenOf ((clsE es).take _)).length = _
  rw [clsE_len, clsE_seen es _ (Nat.le_refl _), upTo_length, List.take_length]
theorem seenE_le (es : List (Ent Int)) : ∀ k, k ≤ es.length → (seenE es).length ≤ (seenE (es.take k)).length + (es.length - k) := by
  intro k hk
  induction hd : es.length - k generalizing k with
  | zero => have : k = es.length := by omega
            subst this; rw [List.take_length]; omega
  | succ d ih =>
    have h := ih (k + 1) (by omega) (by omega)
    by_cases hm : atE es (k : Int) ∈ seenE (es.take k)
    · rw [seenE_f (by omega) hm] at h; omega
    · rw [seenE_t (by omega) hm, List.length_append] at h; simp at h; omega
theorem seenE_k (es : List (Ent Int)) : ∀ k, k ≤ es.length → (seenE (es.take k)).length ≤ k := by
  intro k
  induction k with
  | zero => intro _; simp [seenE]
  | succ k ih =>
    intro hk
    have h := ih (by omega)
    by_cases hm : atE es (k : Int) ∈ seenE (es.take k)
    · rw [seenE_f (by omega) hm]; omega
    · rw [seenE_t (by omega) hm, List.length_append]; simp; omega
theorem seenE_all {es : List (Ent Int)} : (seenE es).length = es.length ↔ ∀ a b : Nat, b < a → a < es.length → ¬ atE es (a : Int) = atE es (b : Int) := by
  constructor
  · intro h a b hb ha he
    have h1 := seenE_le es a (by omega); have h2 := seenE_le es (a + 1) (by omega); have h3 := seenE_k es a (by omega)
    have hm : atE es (a : Int) ∈ seenE (es.take a) := by
      rw [mem_seenE0, he]
      refine List.mem_take_iff_getElem.2 ⟨b, by omega, ?_⟩
      simp [atE, List.getD_eq_getElem?_getD, List.getElem?_eq_getElem (show b < es.length by omega)]
    rw [seenE_f ha hm] at h2; omega
  · intro h
    have : ∀ k, k ≤ es.length → (seenE (es.take k)).length = k := by
      intro k
      induction k with
      | zero => intro _; simp [seenE]
      | succ k ih =>
        intro hk
        have h1 := ih (by omega)
        have hm : atE es (k : Int) ∉ seenE (es.take k) := by
          rw [mem_seenE0]
          intro hm
          obtain ⟨b, hb, he⟩ := List.mem_take_iff_getElem.1 hm
          refine h k b (by omega) (by omega) ?_
          rw [← he]
          simp [atE, List.getD_eq_getElem?_getD, List.getElem?_eq_getElem (show b < es.length by omega)]
        rw [seenE_t (by omega) hm, List.length_append]; simp; omega
    have h2 := this es.length (Nat.le_refl _)
    rwa [List.take_length] at h2
def RetEn (W : World) (es : List (Ent Int)) (e : Ending) (w' : World) : Prop := ∃ v, e = .returned v ∧ OwnE lab_int v es w' (fun k => W.heap.size ≤ k) ∧ Below W.heap.size W w'
section
variable {w0 : World} {is : List Itm} {ops : Array Oper} {Q : Exit → Act → World → Prop} {o : Oper} {rest : List Oper} {N n m : Nat} {e : Env} {v : Value} {d : Nat} {K : Act → World → Prop} {f : FuncId} {fn : Func} {ags : Array Operand} {ts : Array TypeId} {vs : List Value}
theorem go_callEn {es : List (Ent Int)} (hd : o.dst = some d) (hN : Nat.blt d N = true) (hop : o.op = .call { callee := .value (.func f), args := ags, argTypes := ts }) (hfn : Try.prog.funcs[f]? = some fn) (hb : fn.body.isNone = false) (hn : (fn.name == "runtime.NumGoroutine") = false)
    (hargs : evoL e ags.toList = some vs) (hc : ∀ w, Mem w0 w is → Calls Try.prog f vs.toArray w (RetEn w es)) (hk : ∀ a cap, GK w0 (is ++ [ownEI lab_int (.slice a es.length cap) es]) N K ((d, .slice a es.length cap) :: e)) : GO w0 is N o e Q K := by
  intro w a M F
  refine go_call hd hN F hop hfn hb hn hargs (hc w M) fun e' w' hR => ?_
  obtain ⟨v, rfl, hO, hbl⟩ := hR
  obtain ⟨va, vc, rfl⟩ := ownE_form hO
  exact ⟨_, rfl, fun a F => hk va vc w' a (mem_new M hbl hO) F⟩
theorem mem_ownEO {w0 w : World} {is : List Itm} {n : Nat} {v : Value} {es : List (Ent Int)} (M : Mem w0 w is) (h : is[n]? = some (ownEI lab_int v es)) : OwnE lab_int v es w (fun k => w0.heap.size ≤ k) := by
  obtain ⟨S, hS, hb⟩ := mem_get M h
  exact (ownE_loc lab_int v es).keep (fun k _ hk => hS k hk) agree_refl hb
end
def fillE (φ : Nat → Ent Int) (n k : Nat) : List (Ent Int) := (List.range n).map fun j => if j < k then φ j else ent0
theorem fillE_zero (φ : Nat → Ent Int) (n : Nat) : List.replicate n ent0 = fillE φ n 0 := by
  refine List.ext_getElem (by simp [fillE]) fun j h1 h2 => by simp [fillE]
theorem fillE_len (φ : Nat → Ent Int) (n k : Nat) : (fillE φ n k).length = n := by simp [fillE]
theorem fillE_set (φ : Nat → Ent Int) {n k : Nat} (h : k < n) : (fillE φ n k).set ((k : Int)).toNat (φ k) = fillE φ n (k + 1) := by
  refine List.ext_getElem (by simp [fillE]) fun j h1 h2 => ?_
  simp only [fillE, List.getElem_set, List.getElem_map, List.getElem_range, Int.toNat_natCast]
  by_cases e : k = j
  · subst e; rw [if_pos rfl, if_pos (by omega)]
  · rw [if_neg e]
    by_cases hj : j < k
    · rw [if_pos hj, if_pos (by omega)]
    · rw [if_neg hj, if_neg (by omega)]
theorem fillE_end (φ : Nat → Ent Int) (n : Nat) : fillE φ n n = entsTo φ n := List.map_congr_left fun j hj => if_pos (List.mem_range.1 hj)

set_option maxHeartbeats 1000000 in
set_option maxRecDepth 100000 in
theorem partByE_any (w : World) (va : Value) (es : List (Ent Int)) (hE : RdE lab_int w va es) (hl : es.length ≤ 100000) :
    Calls Try.prog 135 #[va] w (RetL w (clsE es)) := by
  obtain ⟨aa, ac, rfl⟩ := lenV_E hE
  go_enter Try.func135, Try.ntmps135
  refine gc_enter (N := 39) rfl (look_cons (k := 0) rfl (look_nil _)) ?_
  refine gc_seq fun K1 hK1 => ?_
  refine gc_region ?_
  refine g_v (.free rfl) rfl rfl (qt_assign rfl rfl) ?_
  refine g_nil ?_
  refine gk_then (hK1 _ _ ?_)
  refine gc_seq fun K2 hK2 => ?_
  refine gc_region ?_
  refine g_op (.free rfl) fun K4 hK4 => ?_
  refine go_makeNum lab_int rfl rfl rfl ?_
  intro B3
  refine hK4 _ _ ?_
  refine g_v (.free rfl) rfl rfl (qt_assign rfl rfl) ?_
  refine g_nil ?_
  refine gk_then (hK2 _ _ ?_)
  refine gc_seq fun K5 hK5 => ?_
  refine gc_region ?_
  refine g_v (.free rfl) rfl rfl (qt_move rfl rfl) ?_
  refine g_v (.free rfl) rfl rfl (qt_len rfl rfl (lab_ul lab_int) (fun w M => lenV_E (mem_rdE M hE))) ?_
  refine g_op (.free rfl) fun K7 hK7 => ?_
  refine go_make1 rfl rfl rfl Try.underlying102 rfl rfl (by omega) ?_
  intro B6
  refine hK7 _ _ ?_
  refine g_v (.free rfl) rfl rfl (qt_assign rfl rfl) ?_
  refine g_nil ?_
  refine gk_then (hK5 _ _ ?_)
  refine gc_seq fun K8 hK8 => ?_
  refine gc_seq fun K9 hK9 => ?_
  refine gc_region ?_
  refine g_v (.free rfl) rfl rfl (qt_move rfl rfl) ?_
  refine g_v (.free rfl) rfl rfl (qt_len rfl rfl (lab_ul lab_int) (fun w M => lenV_E (mem_rdE M hE))) ?_
  refine g_v (.free rfl) rfl rfl (qt_move rfl rfl) ?_
  refine g_nil ?_
  refine gk_then (hK9 _ _ ?_)
  refine gc_block ?_
  rw [fillTo_zero (fun j => numE es (atE es (j : Int))) es.length]
  try simp only [List.nil_append, List.cons_append, List.append_assoc, List.set_cons_succ, List.set_cons_zero]
  refine gc_loop ([(0, _), (2, _), (3, _), (4, _), (13, _), (14, _)] : Env) (fun s : Nat => (fun (k : Nat) => ([(15, .int .i64 (k : Int))] : Env)) s) (fun s : Nat => (fun (k : Nat) => ([(0, numI lab_int B3 (seenE (es.take k))), (1, own1I (.slice (some ⟨B6, 0, none⟩) es.length es.length) (fillTo (fun j => numE es (atE es (j : Int))) es.length k))] : List (Nat × Itm))) s) (fun s : Nat => (fun (k : Nat) => k ≤ es.length) s) (fun s : Nat => (fun (k : Nat) => es.length - k) s) (0) (sub_cons rfl (sub_cons rfl (sub_cons rfl (sub_cons rfl (sub_cons rfl (sub_cons rfl (sub_cons rfl sub_nil))))))) rfl (Nat.zero_le _) ?_
  rintro k hinv KL10 hKL10
  simp only [updL, List.foldl_cons, List.foldl_nil, List.set_cons_succ, List.set_cons_zero, List.cons_append, List.nil_append] at hinv hKL10 ⊢
  have hk := hinv
  have hfl := fillTo_len (fun j => numE es (atE es (j : Int))) es.length k
  refine gc_seq fun K11 hK11 => ?_
  refine gc_region ?_
  refine g_v (.free rfl) rfl rfl (qt_lss rfl rfl rfl) ?_
  refine g_nil ?_
  refine gk_then (hK11 _ _ ?_)
  refine gc_seq fun K12 hK12 => ?_
  refine gc_cond rfl (fun hc0 => ?_) (fun hc0 => ?_)
  · try simp only [decide_eq_true_eq, decide_eq_false_iff_not, Bool.not_eq_true', Bool.not_eq_false', Bool.not_eq_eq_eq_not, Bool.not_true, Bool.not_false, ne_eq, Decidable.not_not, Classical.not_not] at hc0
    refine gc_skip ?_
    refine gk_then (hK12 _ _ ?_)
    refine gc_seq fun K13 hK13 => ?_
    refine gc_block ?_
    refine gc_seq fun K14 hK14 => ?_
    refine gc_region ?_
    refine g_v (.free rfl) rfl rfl (qt_move rfl rfl) ?_
    refine g_v (.free rfl) rfl rfl (qt_indexE lab_int rfl rfl rfl rfl (fun w M => lenA_E (mem_rdE M hE)) (by omega) (by omega)) ?_
    refine g_v (.free rfl) rfl rfl (qt_loadE lab_int rfl rfl rfl (fun w M => mem_rdE M hE) (by omega) (by omega)) ?_
    refine g_op (.free rfl) fun K16 hK16 => ?_
    refine go_alloc (z := (.agg #[.int .i64 0, .int .i64 0, .int .i64 0])) (cs := [.int .i64 0, .int .i64 0, .int .i64 0]) rfl rfl rfl (fun w => by kernel_rfl) rfl ?_
    intro B15
    refine hK16 _ _ ?_
    refine g_v (.free rfl) rfl rfl (qt_assign rfl rfl) ?_
    refine g_op (.free rfl) fun K17 hK17 => ?_
    refine go_storeS (n := 2) rfl rfl rfl rfl (by kernel_rfl) rfl rfl rfl ?_
    refine hK17 _ _ ?_
    refine g_nil ?_
    refine gk_then (hK14 _ _ ?_)
    refine gc_seq fun K18 hK18 => ?_
    refine gc_region ?_
    refine g_v (.free rfl) rfl rfl (qt_move rfl rfl) ?_
    refine g_v (.free rfl) rfl rfl (qt_loadS (n := 2) rfl rfl Try.underlying110 rfl (by kernel_rfl) rfl) ?_
    refine g_v (.free rfl) rfl rfl (qt_lookN2 lab_int rfl rfl rfl rfl (fun w M => mem_numN (n := 0) M rfl)) ?_
    refine g_v (.free rfl) rfl rfl (qt_move rfl rfl) ?_
    refine g_v (.free rfl) rfl rfl (qt_extract rfl rfl rfl) ?_
    refine g_v (.free rfl) rfl rfl (qt_extract rfl rfl rfl) ?_
    refine g_v (.free rfl) rfl rfl (qt_assign rfl rfl) ?_
    refine g_v (.free rfl) rfl rfl (qt_assign rfl rfl) ?_
    refine g_nil ?_
    refine gk_then (hK18 _ _ ?_)
    refine gc_seq fun K19 hK19 => ?_
    refine gc_seq fun K20 hK20 => ?_
    refine gc_region ?_
    refine g_v (.free rfl) rfl rfl (qt_move rfl rfl) ?_
    refine g_v (.free rfl) rfl rfl (qt_not rfl rfl) ?_
    refine g_nil ?_
    refine gk_then (hK20 _ _ ?_)
    refine gc_cond rfl (fun hc1 => ?_) (fun hc1 => ?_)
    · try simp only [decide_eq_true_eq, decide_eq_false_iff_not, Bool.not_eq_true', Bool.not_eq_false', Bool.not_eq_eq_eq_not, Bool.not_true, Bool.not_false, ne_eq, Decidable.not_not, Classical.not_not] at hc1
      refine gc_seq fun K21 hK21 => ?_
      refine gc_region ?_
      refine g_v (.free rfl) rfl rfl (qt_move rfl rfl) ?_
      refine g_v (.free rfl) rfl rfl (qt_lenN lab_int rfl rfl rfl (fun w M => mem_numN (n := 0) M rfl)) ?_
      refine g_v (.free rfl) rfl rfl (qt_assign rfl rfl) ?_
      refine g_nil ?_
      refine gk_then (hK21 _ _ ?_)
      refine gc_region ?_
      refine g_v (.free rfl) rfl rfl (qt_move rfl rfl) ?_
      refine g_v (.free rfl) rfl rfl (qt_loadS (n := 2) rfl rfl Try.underlying110 rfl (by kernel_rfl) rfl) ?_
      refine g_v (.free rfl) rfl rfl (qt_move rfl rfl) ?_
      refine g_op (.free rfl) fun K22 hK22 => ?_
      refine go_putN lab_int (n := 0) rfl rfl rfl rfl rfl rfl rfl (by assumption) (by simp) ?_
      refine hK22 _ _ ?_
      refine g_nil ?_
      refine gk_then (hK19 _ _ ?_)
      refine gc_region ?_
      refine g_v (.free rfl) rfl rfl (qt_move rfl rfl) ?_
      refine g_v (.free rfl) rfl rfl (qt_move rfl rfl) ?_
      refine g_v (.free rfl) rfl rfl (qt_move rfl rfl) ?_
      refine g_v (.free rfl) rfl rfl (qt_index rfl rfl rfl ulEP szEP (fun w M => lenA_own1 (n := 1) rfl M) (by omega) (by omega)) ?_
      refine g_op (.free rfl) fun K23 hK23 => ?_
      refine go_store1 (n := 1) rfl rfl rfl rfl (by kernel_rfl) rfl (by omega) (by omega) ?_
      refine hK23 _ _ ?_
      refine g_nil ?_
      refine gk_block ?_
      refine gk_then (hK13 _ _ ?_)
      refine gc_region ?_
      refine g_v (.free rfl) rfl rfl (qt_add rfl rfl rfl (by omega)) ?_
      refine g_v (.free rfl) rfl rfl (qt_move rfl rfl) ?_
      refine g_nil ?_
      rw [seenE_t2 (es := es) (k := k) (by omega) hc1, fillTo_set' (φ := fun j => numE es (atE es (j : Int))) (by omega) (numE_new (by omega) hc1)]
      refine gk_then (gk_take 2 ?_)
      refine gk_sub ?hs_24 (hKL10 (k + 1) ?hi_24 ?hm_24)
      case hs_24 => exact (sub_cons rfl (sub_cons rfl (sub_cons rfl (sub_cons rfl (sub_cons rfl (sub_cons rfl (sub_cons rfl sub_nil)))))))
      case hi_24 => omega
      case hm_24 => omega
    · try simp only [decide_eq_true_eq, decide_eq_false_iff_not, Bool.not_eq_true', Bool.not_eq_false', Bool.not_eq_eq_eq_not, Bool.not_true, Bool.not_false, ne_eq, Decidable.not_not, Classical.not_not] at hc1
      refine gc_skip ?_
      refine gk_then (hK19 _ _ ?_)
      refine gc_region ?_
      refine g_v (.free rfl) rfl rfl (qt_move rfl rfl) ?_
      refine g_v (.free rfl) rfl rfl (qt_move rfl rfl) ?_
      refine g_v (.free rfl) rfl rfl (qt_move rfl rfl) ?_
      refine g_v (.free rfl) rfl rfl (qt_index rfl rfl rfl ulEP szEP (fun w M => lenA_own1 (n := 1) rfl M) (by omega) (by omega)) ?_
      refine g_op (.free rfl) fun K25 hK25 => ?_
      refine go_store1 (n := 1) rfl rfl rfl rfl (by kernel_rfl) rfl (by omega) (by omega) ?_
      refine hK25 _ _ ?_
      refine g_nil ?_
      refine gk_block ?_
      refine gk_then (hK13 _ _ ?_)
      refine gc_region ?_
      refine g_v (.free rfl) rfl rfl (qt_add rfl rfl rfl (by omega)) ?_
      refine g_v (.free rfl) rfl rfl (qt_move rfl rfl) ?_
      refine g_nil ?_
      rw [fillTo_set' (φ := fun j => numE es (atE es (j : Int))) (by omega) (numE_old hc1), ← seenE_f (es := es) (k := k) (by omega) hc1]
      refine gk_then (gk_take 2 ?_)
      refine gk_sub ?hs_26 (hKL10 (k + 1) ?hi_26 ?hm_26)
      case hs_26 => exact (sub_cons rfl (sub_cons rfl (sub_cons rfl (sub_cons rfl (sub_cons rfl (sub_cons rfl (sub_cons rfl sub_nil)))))))
      case hi_26 => omega
      case hm_26 => omega
  · try simp only [decide_eq_true_eq, decide_eq_false_iff_not, Bool.not_eq_true', Bool.not_eq_false', Bool.not_eq_eq_eq_not, Bool.not_true, Bool.not_false, ne_eq, Decidable.not_not, Classical.not_not] at hc0
    refine gc_exit ?_
    refine gk_then_exit ?_
    refine gk_then_exit ?_
    refine gk_block_hit ?_
    refine gk_then (hK8 _ _ ?_)
    refine gc_seq fun K27 hK27 => ?_
    refine gc_region ?_
    refine g_v (.free rfl) rfl rfl (qt_move rfl rfl) ?_
    refine g_v (.free rfl) rfl rfl (qt_assign rfl rfl) ?_
    refine g_nil ?_
    refine gk_then (hK27 _ _ ?_)
    refine gc_ret ?_
    refine ret_1 rfl rfl  (fun w M => ?_)
    obtain rfl : k = es.length := by omega
    rw [fillTo_end] at M
    exact ⟨_, rfl, mem_own1 (n := 1) M rfl, M.1⟩

end Go.Proofs.Ytpfcfhjpgngneaa
