import Derived.Test.YtbiplocgenppoaaC4
import Derived.Test.YtbiplocgenppoaaC10
import Derived.Test.YtbiplocgenppoaaC13
set_option maxHeartbeats 1000000
set_option maxRecDepth 100000
set_option linter.unusedSimpArgs false
set_option linter.unusedVariables false
set_option linter.unusedSectionVars false
namespace Go.Proofs.Ytbiplocgenppoaa
open _root_.Go.Proofs.Try
open Go.RowKit
theorem mem_bxlo {w0 w : World} {is : List Itm} {n B : Nat} {t : TypeId} {cs : List Value} (M : Mem w0 w is) (h : is[n]? = some (bxI B t cs)) : Bx w B t cs ∧ w0.heap.size ≤ B := by
 obtain ⟨S, hS, hb, hs⟩ := mem_get M h
 exact ⟨hb, hS _ hs⟩
theorem bxV_kept {w0 w w' : World} {is : List Itm} {n B : Nat} {t : TypeId} {cs : List Value} (M : Mem w0 w is) (h : is[n]? = some (bxI B t cs)) (hk : ∀ k, w0.heap.size ≤ k → k < w.heap.size → w'.heap[k]? = w.heap[k]?) : BxV w' B t (.agg cs.toArray) := by
 obtain ⟨hb, hl⟩ := mem_bxlo M h
 exact (hk B hl (bx_lt hb)).trans hb
noncomputable def idxF (p : Nat → Prop) (n : Nat) : Int := match firstN p n with
 | some i => (i : Int)
 | none => -1
theorem idxF_t {p : Nat → Prop} {n k : Nat} (hk : k < n) (h : p k) (h2 : ∀ j, j < k → ¬ p j) : idxF p n = (k : Int) := by unfold idxF; rw [firstN_some hk h h2]
theorem idxF_f {p : Nat → Prop} {n : Nat} (h2 : ∀ j, j < n → ¬ p j) : idxF p n = -1 := by unfold idxF; rw [firstN_none h2]
theorem idxF_ex {p : Nat → Prop} {n : Nat} : bP (∃ i, i < n ∧ p i) = decide (0 ≤ idxF p n) := by
 by_cases h : ∃ i, i < n ∧ p i
 ·obtain ⟨i, hi, hp⟩ := h
  have hl := leastN_spec (p := fun i => i < n ∧ p i) ⟨hi, hp⟩
  have hno : ∀ j, j < leastN (fun i => i < n ∧ p i) → ¬ p j := fun j hj hp => by
   have := (leastN_spec (p := fun i => i < n ∧ p i) (n := j) ⟨by have := hl.1.1; omega, hp⟩).2
   omega
  rw [bP_t ⟨i, hi, hp⟩, idxF_t hl.1.1 hl.1.2 hno]; simp
 rw [bP_f h, idxF_f fun j hj hp => h ⟨j, hj, hp⟩]; rfl
theorem before1_any (w : World) (g : Int) (B : Nat) (v : Value) (c : Cat) (h : RdC w v c) (hS : ShapeP c) (hbB : BxV w B 27 v) (D : Nat) (f : Int) (hbD : BxV w D 2 (.agg [.int .i64 f].toArray)) (f0 : 0 ≤ f) (f1 : f < c.s.length) (g0 : 0 ≤ g) (g1 : g < c.s.length) :
  Calls Try.prog 74 #[.int .i64 g, .pointer (some ⟨B, 0, none⟩), .pointer (some ⟨D, 0, none⟩)] w (RetI w (bef c f g)) := by
 have h0 := h
 obtain ⟨va, vb, vc, vd, ve, vf, vg, vh, rfl, h1, h2, h3, h4, _⟩ := h.lists
 have hA := arrP hS f0 f1
 have hB := arrP hS g0 g1
 have a3 := hA.fm; have a4 := hA.row; have b3 := hB.fm; have b4 := hB.row
 go_enter func74, Try.ntmps74
 refine gc_enter (N := 9) rfl (look_cons (k := 0) rfl (look_cons (k := 1) rfl (look_cons (k := 2) rfl (look_nil _)))) ?_
 refine gc_sr fun K1 hK1 => ?_
 refine gas ?_
 refine gnt (hK1 _ _ ?_)
 refine gc_sr fun K2 hK2 => ?_
 refine gv (qt_loadRS hbB rfl rfl underlying27 rfl (by kernel_rfl)) ?_
 refine gm ?_
 refine gv (qt_loadRB hbD rfl rfl underlying2 rfl rfl) ?_
 refine g_q (.free rfl) rfl rfl (qt_call rfl func30 rfl (by decide) rfl (fun w M => then_any w _ _ _ _ (mem_rdC M h0) (by first | assumption | omega) (by first | assumption | omega) (by first | assumption | omega) (by first | assumption | omega))) ?_
 refine gas ?_
 refine gnt (hK2 _ _ ?_)
 refine gc_ret ?_
 refine ret_1 rfl rfl  (fun w M => ?_)
 exact ⟨rfl, M.1⟩
theorem before_any (w : World) (W0 : World) (v : Value) (c : Cat) (f : Int) (h : RdC W0 v c) (hB : Below W0.heap.size W0 w) (hS : ShapeP c) (f0 : 0 ≤ f) (f1 : f < c.s.length) :
  Calls Try.prog 50 #[v, .int .i64 f] w (RetFv W0 w (SpI c.s.length (bef c f))) := by
 have h0 := h
 obtain ⟨va, vb, vc, vd, ve, vf, vg, vh, rfl, h1, h2, h3, h4, _⟩ := h.lists
 go_enter func50, Try.ntmps50
 refine gc_enter (N := 6) rfl (look_cons (k := 0) rfl (look_cons (k := 1) rfl (look_nil _))) ?_
 refine gc_sr fun K1 hK1 => ?_
 refine gop fun K3 hK3 => ?_
 refine go_box rfl rfl rfl rfl rfl ?_
 intro B2
 refine hK3 _ _ ?_
 refine gop fun K5 hK5 => ?_
 refine go_box rfl rfl rfl rfl rfl ?_
 intro B4
 refine hK5 _ _ ?_
 refine gas ?_
 refine gnt (hK1 _ _ ?_)
 refine gc_sr fun K6 hK6 => ?_
 refine gv (qt_makeF rfl rfl) ?_
 refine gas ?_
 refine gnt (hK6 _ _ ?_)
 refine gc_ret ?_
 refine ret_1 rfl rfl  (fun w M => ?_)
 exact ⟨_, rfl, fun w' hb hk => ⟨⟨_, _, _, rfl⟩, fun g g0 g1 => callsV_f (bnd := []) (vs := [_]) (caps := [_, _]) func74 rfl (by decide) (before1_any w' g _ _ c (rdC_below hb h0) hS (bxV_kept (n := 0) M rfl hk) _ f (bxV_kept (n := 1) M rfl hk) f0 f1 g0 g1)⟩, M.1⟩
theorem behind1_any (w : World) (g : Int) (B : Nat) (v : Value) (c : Cat) (h : RdC w v c) (hS : ShapeP c) (hbB : BxV w B 27 v) (D : Nat) (f : Int) (hbD : BxV w D 2 (.agg [.int .i64 f].toArray)) (f0 : 0 ≤ f) (f1 : f < c.s.length) (g0 : 0 ≤ g) (g1 : g < c.s.length) :
  Calls Try.prog 80 #[.int .i64 g, .pointer (some ⟨B, 0, none⟩), .pointer (some ⟨D, 0, none⟩)] w (RetI w (beh c f g)) := by
 have h0 := h
 obtain ⟨va, vb, vc, vd, ve, vf, vg, vh, rfl, h1, h2, h3, h4, _⟩ := h.lists
 have hA := arrP hS f0 f1
 have hB := arrP hS g0 g1
 have a3 := hA.fm; have a4 := hA.row; have b3 := hB.fm; have b4 := hB.row
 go_enter func80, Try.ntmps80
 refine gc_enter (N := 9) rfl (look_cons (k := 0) rfl (look_cons (k := 1) rfl (look_cons (k := 2) rfl (look_nil _)))) ?_
 refine gc_sr fun K1 hK1 => ?_
 refine gas ?_
 refine gnt (hK1 _ _ ?_)
 refine gc_sr fun K2 hK2 => ?_
 refine gv (qt_loadRS hbB rfl rfl underlying27 rfl (by kernel_rfl)) ?_
 refine gv (qt_loadRB hbD rfl rfl underlying2 rfl rfl) ?_
 refine gm ?_
 refine g_q (.free rfl) rfl rfl (qt_call rfl func30 rfl (by decide) rfl (fun w M => then_any w _ _ _ _ (mem_rdC M h0) (by first | assumption | omega) (by first | assumption | omega) (by first | assumption | omega) (by first | assumption | omega))) ?_
 refine gas ?_
 refine gnt (hK2 _ _ ?_)
 refine gc_ret ?_
 refine ret_1 rfl rfl  (fun w M => ?_)
 exact ⟨rfl, M.1⟩
theorem behind_any (w : World) (W0 : World) (v : Value) (c : Cat) (f : Int) (h : RdC W0 v c) (hB : Below W0.heap.size W0 w) (hS : ShapeP c) (f0 : 0 ≤ f) (f1 : f < c.s.length) :
  Calls Try.prog 59 #[v, .int .i64 f] w (RetFv W0 w (SpI c.s.length (beh c f))) := by
 have h0 := h
 obtain ⟨va, vb, vc, vd, ve, vf, vg, vh, rfl, h1, h2, h3, h4, _⟩ := h.lists
 go_enter func59, Try.ntmps59
 refine gc_enter (N := 6) rfl (look_cons (k := 0) rfl (look_cons (k := 1) rfl (look_nil _))) ?_
 refine gc_sr fun K1 hK1 => ?_
 refine gop fun K3 hK3 => ?_
 refine go_box rfl rfl rfl rfl rfl ?_
 intro B2
 refine hK3 _ _ ?_
 refine gop fun K5 hK5 => ?_
 refine go_box rfl rfl rfl rfl rfl ?_
 intro B4
 refine hK5 _ _ ?_
 refine gas ?_
 refine gnt (hK1 _ _ ?_)
 refine gc_sr fun K6 hK6 => ?_
 refine gv (qt_makeF rfl rfl) ?_
 refine gas ?_
 refine gnt (hK6 _ _ ?_)
 refine gc_ret ?_
 refine ret_1 rfl rfl  (fun w M => ?_)
 exact ⟨_, rfl, fun w' hb hk => ⟨⟨_, _, _, rfl⟩, fun g g0 g1 => callsV_f (bnd := []) (vs := [_]) (caps := [_, _]) func80 rfl (by decide) (behind1_any w' g _ _ c (rdC_below hb h0) hS (bxV_kept (n := 0) M rfl hk) _ f (bxV_kept (n := 1) M rfl hk) f0 f1 g0 g1)⟩, M.1⟩
theorem canc1_any (w : World) (u : Value) (φ : Int → Int) (m : Nat) (hu : ∀ w', Below w.heap.size w w' → SpI m φ w' u) (D E : Nat) (g k : Int) (hbD : BxV w D 2 (.agg [.int .i64 g].toArray)) (hbE : BxV w E 2 (.agg [.int .i64 k].toArray)) (g0 : 0 ≤ g) (g1 : g < m) (k0 : 0 ≤ k) (k1 : k < m) :
  Calls Try.prog 75 #[u, .pointer (some ⟨D, 0, none⟩), .pointer (some ⟨E, 0, none⟩)] w (RetB w (bP (φ g = -1 ∨ φ g ≠ φ k))) := by
 go_enter func75, Try.ntmps75
 refine gc_enter (N := 18) rfl (look_cons (k := 0) rfl (look_cons (k := 1) rfl (look_cons (k := 2) rfl (look_nil _)))) ?_
 refine gc_sr fun K1 hK1 => ?_
 refine gas ?_
 refine gnt (hK1 _ _ ?_)
 refine gc_seq fun K2 hK2 => ?_
 refine gc_draw (by kernel_rfl) ?_
 refine gdv (qt_move rfl rfl) ?_
 refine gdv (qt_loadRB hbD rfl rfl underlying2 rfl rfl) ?_
 refine gd_q (.free rfl) rfl rfl (qt_callV rfl rfl rfl (fun w M => (hu w M.1).2 _ (by assumption) (by assumption))) ?_
 refine gdv (qt_eql rfl rfl rfl) ?_
 refine gd_splitv (.free rfl) rfl rfl (qt_move rfl rfl) (fun hs1_4 => ?_) (fun hs1_4 => ?_)
 ·try simp only [sA] at hs1_4
  refine gdsk ?_
  refine gdsk ?_
  refine gdsk ?_
  refine gdsk ?_
  refine gdsk ?_
  refine gdsk ?_
  refine gdsk ?_
  refine gdv (qt_pick_t rfl rfl rfl) ?_
  refine gdv (qt_assign rfl rfl) ?_
  refine gd_nil ?_
  refine gk_then (hK2 _ _ ?_)
  refine gc_ret ?_
  refine ret_1 rfl rfl  (fun w M => ?_)
  rw [bP_t (.inl hs1_4)]; exact ⟨rfl, M.1⟩
 try simp only [sA] at hs1_4
 refine gdvh (qt_move rfl rfl) ?_
 refine gdvh (qt_loadRB hbD rfl rfl underlying2 rfl rfl) ?_
 refine gd_q (.held _ _ _ rfl rfl rfl) rfl rfl (qt_callV rfl rfl rfl (fun w M => (hu w M.1).2 _ (by assumption) (by assumption))) ?_
 refine gdvh (qt_move rfl rfl) ?_
 refine gdvh (qt_loadRB hbE rfl rfl underlying2 rfl rfl) ?_
 refine gd_q (.held _ _ _ rfl rfl rfl) rfl rfl (qt_callV rfl rfl rfl (fun w M => (hu w M.1).2 _ (by assumption) (by assumption))) ?_
 refine gdvh (qt_neq rfl rfl rfl) ?_
 refine gdv (qt_pick_f rfl rfl rfl) ?_
 refine gdv (qt_assign rfl rfl) ?_
 refine gd_nil ?_
 refine gk_then (hK2 _ _ ?_)
 refine gc_ret ?_
 refine ret_1 rfl rfl  (fun w M => ?_)
 rw [show bP (φ g = -1 ∨ φ g ≠ φ k) = decide (φ g ≠ φ k) from by rw [← bP_dec]; exact bP_congr ⟨fun h => h.resolve_left hs1_4, .inr⟩]; exact ⟨rfl, M.1⟩
theorem idxFunc_any (w : World) (u : Value) (us : List Value) (fv : Value) (p : Nat → Prop) (hu : RdV w u us) (hf : ∀ w', Below w.heap.size w w' → ∀ i, i < us.length → CallsV fv [us.getD i undef] w' (RetB w' (bP (p i)))) :
  Calls Try.prog 91 #[u, fv] w (RetI w (idxF p us.length)) := by
 have hul : us.length ≤ 17592186044415 := by obtain ⟨_, _, _, hl, _⟩ := hu; exact hl
 obtain ⟨ua, uc, rfl⟩ := rdV_form hu
 go_enter func91, Try.ntmps91
 refine gc_enter (N := 19) rfl (look_cons (k := 0) rfl (look_cons (k := 1) rfl (look_nil _))) ?_
 refine gc_sr fun K1 hK1 => ?_
 refine gas ?_
 refine gnt (hK1 _ _ ?_)
 refine gc_seq fun K2 hK2 => ?_
 refine gc_sr fun K3 hK3 => ?_
 refine gm ?_
 refine gv (qt_len rfl rfl ulEV (fun w M => lenV_V (mem_rdV M hu))) ?_
 refine gm ?_
 refine gnt (hK3 _ _ ?_)
 refine gc_block ?_
 try simp only [sL]
 refine gc_loopT ([(0, _), (1, _), (7, _)] : Env) (fun s : Nat => (fun (k : Nat) => (([(8, .int .i64 (k : Int))] : Env), ([] : List (Nat × Itm)), k ≤ us.length ∧ ∀ j : Nat, j < k → ¬ p j, us.length - k)) s) (0) (by repeat first | exact sub_nil | refine sub_cons rfl ?_) rfl ⟨Nat.zero_le _, fun j hj => absurd hj (by omega)⟩ ?_
 rintro k hinv KL4 hKL4
 simp only [sU, sL] at hinv hKL4 ⊢
 obtain ⟨hk, hno⟩ := hinv
 refine gc_sr fun K5 hK5 => ?_
 refine gv (qt_lss rfl rfl rfl) ?_
 refine gnt (hK5 _ _ ?_)
 refine gc_seq fun K6 hK6 => ?_
 refine gc_cond rfl (fun hc0 => ?_) (fun hc0 => ?_)
 ·try simp only [sA] at hc0
  refine gc_skip ?_
  refine gk_then (hK6 _ _ ?_)
  refine gc_seq fun K7 hK7 => ?_
  refine gc_block ?_
  refine gc_sr fun K8 hK8 => ?_
  refine gm ?_
  refine gas ?_
  refine gnt (hK8 _ _ ?_)
  refine gc_sr fun K9 hK9 => ?_
  refine gm ?_
  refine gm ?_
  refine gm ?_
  refine gv (qt_index rfl rfl rfl ulEV szEV (fun w M => lenA_V (mem_rdV M hu)) (by omega) (by omega)) ?_
  refine gv (qt_loadV rfl rfl underlying77 rfl (fun w M => mem_rdV M hu) (by omega) (by omega)) ?_
  refine g_q (.free rfl) rfl rfl (qt_callV rfl rfl rfl (fun w M => hf w M.1 k (by omega))) ?_
  refine gnt (hK9 _ _ ?_)
  refine gc_cond rfl (fun hc1 => ?_) (fun hc1 => ?_)
  ·try simp only [sA] at hc1
   refine gc_sr fun K10 hK10 => ?_
   refine gm ?_
   refine gas ?_
   refine gnt (hK10 _ _ ?_)
   refine gc_ret ?_
   refine gk_block_ret ?_
   refine gk_then_ret ?_
   refine gk_then_ret ?_
   refine gk_block_ret ?_
   refine gk_then_ret ?_
   refine ret_1 rfl rfl  (fun w M => ?_)
   rw [idxF_t (by omega) (bP_t' hc1) hno]; exact ⟨rfl, M.1⟩
  try simp only [sA] at hc1
  refine gc_skip ?_
  refine gk_block ?_
  refine gk_then (hK7 _ _ ?_)
  refine gc_region ?_
  refine gv (qt_add rfl rfl rfl (by omega)) ?_
  refine gm ?_
  refine g_nil ?_
  refine gk_then (gk_take 0 ?_)
  refine gk_sub ?hs_11 (hKL4 (k + 1) ?hi_11 ?hm_11)
  case hs_11 => repeat first | exact sub_nil | refine sub_cons rfl ?_
  case hi_11 => exact ⟨by omega, all_next hno (bP_f' hc1)⟩
  case hm_11 => omega
 try simp only [sA] at hc0
 refine gc_exit ?_
 refine gk_then_exit ?_
 refine gk_then_exit ?_
 refine gk_block_hit ?_
 refine gk_then (hK2 _ _ ?_)
 refine gc_sr fun K12 hK12 => ?_
 refine gas ?_
 refine gnt (hK12 _ _ ?_)
 refine gc_ret ?_
 refine ret_1 rfl rfl  (fun w M => ?_)
 rw [idxF_f fun j hj => hno j (by omega)]; exact ⟨rfl, M.1⟩
theorem conFunc_any (w : World) (u : Value) (us : List Value) (fv : Value) (p : Nat → Prop) (hu : RdV w u us) (hf : ∀ w', Below w.heap.size w w' → ∀ i, i < us.length → CallsV fv [us.getD i undef] w' (RetB w' (bP (p i)))) :
  Calls Try.prog 76 #[u, fv] w (RetB w (bP (∃ i, i < us.length ∧ p i))) := by
 go_enter func76, Try.ntmps76
 refine gc_enter (N := 9) rfl (look_cons (k := 0) rfl (look_cons (k := 1) rfl (look_nil _))) ?_
 refine gc_sr fun K1 hK1 => ?_
 refine gas ?_
 refine gnt (hK1 _ _ ?_)
 refine gc_sr fun K2 hK2 => ?_
 refine gm ?_
 refine gm ?_
 refine g_q (.free rfl) rfl rfl (qt_call rfl func91 rfl (by decide) rfl (fun w M => idxFunc_any w _ (us) _ (p) (mem_rdV M hu) (fun w' hb i hi => hf w' (M.1.trans (hb.mono M.1.size)) i hi))) ?_
 refine gv (qt_geq rfl rfl rfl) ?_
 refine gas ?_
 refine gnt (hK2 _ _ ?_)
 refine gc_ret ?_
 refine ret_1 rfl rfl  (fun w M => ?_)
 rw [idxF_ex]; exact ⟨rfl, M.1⟩
def cancTo (fs : List (Int → Int)) (k l : Nat) : Prop := ∀ g h : Nat, (g < k ∨ g = k ∧ h < l) → h < g → ∃ φ ∈ fs, φ g = -1 ∨ φ g ≠ φ h
theorem cancTo_row {fs : List (Int → Int)} {k : Nat} (h : cancTo fs k k) : cancTo fs (k + 1) 0 := fun g x h1 h2 => h g x (by omega) h2
theorem cancTo_next {fs : List (Int → Int)} {k l : Nat} (h : cancTo fs k l) (hn : ∃ φ ∈ fs, φ k = -1 ∨ φ k ≠ φ l) : cancTo fs k (l + 1) := fun g x h1 h2 => by
 by_cases he : g = k ∧ x = l
 ·obtain ⟨rfl, rfl⟩ := he; exact hn
 exact h g x (by omega) h2
theorem canc_end {fs : List (Int → Int)} {m : Nat} (h : cancTo fs m 0) : cancP fs m := fun g x h1 h2 => h g x (by omega) h1
theorem ex_at {fs : List (Int → Int)} {P : (Int → Int) → Prop} : (∃ i, i < fs.length ∧ P (fs.getD i id)) ↔ ∃ φ ∈ fs, P φ := by
 constructor
 ·rintro ⟨i, hi, hp⟩
  rw [List.getD_eq_getElem?_getD, List.getElem?_eq_getElem hi] at hp
  exact ⟨_, List.getElem_mem hi, hp⟩
 rintro ⟨φ, hm, hp⟩
 obtain ⟨i, hi, rfl⟩ := List.getElem_of_mem hm
 exact ⟨i, hi, by rw [List.getD_eq_getElem?_getD, List.getElem?_eq_getElem hi]; exact hp⟩
theorem isCancelled_any (w : World) (v : Value) (c : Cat) (u : Value) (us : List Value) (fs : List (Int → Int)) (h : RdC w v c) (hn40 : c.s.length ≤ 40) (hu : RdV w u us) (hl : us.length = fs.length) (hf : ∀ w', Below w.heap.size w w' → ∀ i, i < us.length → SpI c.s.length (fs.getD i id) w' (us.getD i undef)) :
  Calls Try.prog 53 #[v, u] w (RetB w (bP (cancP fs c.s.length))) := by
 have h0 := h
 obtain ⟨va, vb, vc, vd, ve, vf, vg, vh, rfl, h1, h2, h3, h4, _⟩ := h.lists
 go_enter func53, Try.ntmps53
 refine gc_enter (N := 24) rfl (look_cons (k := 0) rfl (look_cons (k := 1) rfl (look_nil _))) ?_
 refine gc_sr fun K1 hK1 => ?_
 refine gop fun K3 hK3 => ?_
 refine go_box rfl rfl rfl rfl rfl ?_
 intro B2
 refine hK3 _ _ ?_
 refine gas ?_
 refine gnt (hK1 _ _ ?_)
 refine gc_seq fun K4 hK4 => ?_
 refine gc_sr fun K5 hK5 => ?_
 refine gv (qts underlying27 (n := 0)) ?_
 refine g_q (.free rfl) rfl rfl (qt_call rfl func31 rfl (by decide) rfl (fun w M => arrows_any w _ _ (mem_rdC M h0))) ?_
 refine gm ?_
 refine gnt (hK5 _ _ ?_)
 refine gc_block ?_
 try simp only [sL]
 refine gc_loopT ([(0, _), (1, _), (2, _), (9, _)] : Env) (fun s : Nat => (fun (k : Nat) => (([(10, .int .i64 (k : Int))] : Env), ([] : List (Nat × Itm)), k ≤ c.s.length ∧ cancTo fs k 0, c.s.length - k)) s) (0) (by repeat first | exact sub_nil | refine sub_cons rfl ?_) rfl ⟨Nat.zero_le _, fun g x h1 => absurd h1 (by omega)⟩ ?_
 rintro k hinv KL6 hKL6
 simp only [sU, sL] at hinv hKL6 ⊢
 obtain ⟨hk, hno⟩ := hinv
 refine gc_sr fun K7 hK7 => ?_
 refine gv (qt_lss rfl rfl rfl) ?_
 refine gnt (hK7 _ _ ?_)
 refine gc_seq fun K8 hK8 => ?_
 refine gc_cond rfl (fun hc0 => ?_) (fun hc0 => ?_)
 ·try simp only [sA] at hc0
  refine gc_skip ?_
  refine gk_then (hK8 _ _ ?_)
  refine gc_seq fun K9 hK9 => ?_
  refine gc_block ?_
  refine gc_sr fun K10 hK10 => ?_
  refine gm ?_
  refine gop fun K12 hK12 => ?_
  refine go_alloc (z := (.int .i64 0)) (cs := [.int .i64 0]) rfl rfl rfl (fun w => by kernel_rfl) rfl ?_
  intro B11
  refine hK12 _ _ ?_
  refine gop fun K13 hK13 => ?_
  refine go_storeB (n := 1) rfl rfl rfl rfl (by kernel_rfl) rfl rfl rfl (by first | decide | simp) ?_
  refine hK13 _ _ ?_
  refine gnt (hK10 _ _ ?_)
  refine gc_sr fun K14 hK14 => ?_
  refine gv (qtl underlying2 (n := 1)) ?_
  refine gm ?_
  refine gnt (hK14 _ _ ?_)
  refine gc_block ?_
  try simp only [sL]
  refine gc_loopT ([(0, _), (1, _), (2, _), (5, _), (9, _), (10, _), (11, _), (13, _)] : Env) (fun s : Nat => (fun (l : Nat) => (([(14, .int .i64 (l : Int))] : Env), ([] : List (Nat × Itm)), l ≤ k ∧ cancTo fs k l, k - l)) s) (0) (by repeat first | exact sub_nil | refine sub_cons rfl ?_) rfl ⟨Nat.zero_le _, hno⟩ ?_
  rintro l hinv KL15 hKL15
  simp only [sU, sL] at hinv hKL15 ⊢
  obtain ⟨hl1, hno1⟩ := hinv
  refine gc_sr fun K16 hK16 => ?_
  refine gv (qt_lss rfl rfl rfl) ?_
  refine gnt (hK16 _ _ ?_)
  refine gc_seq fun K17 hK17 => ?_
  refine gc_cond rfl (fun hc1 => ?_) (fun hc1 => ?_)
  ·try simp only [sA] at hc1
   refine gc_skip ?_
   refine gk_then (hK17 _ _ ?_)
   refine gc_seq fun K18 hK18 => ?_
   refine gc_block ?_
   refine gc_sr fun K19 hK19 => ?_
   refine gm ?_
   refine gop fun K21 hK21 => ?_
   refine go_alloc (z := (.int .i64 0)) (cs := [.int .i64 0]) rfl rfl rfl (fun w => by kernel_rfl) rfl ?_
   intro B20
   refine hK21 _ _ ?_
   refine gop fun K22 hK22 => ?_
   refine go_storeB (n := 2) rfl rfl rfl rfl (by kernel_rfl) rfl rfl rfl (by first | decide | simp) ?_
   refine hK22 _ _ ?_
   refine gnt (hK19 _ _ ?_)
   refine gc_sr fun K23 hK23 => ?_
   refine gv (qt_makeF rfl rfl) ?_
   refine gas ?_
   refine gnt (hK23 _ _ ?_)
   refine gc_sr fun K24 hK24 => ?_
   refine gm ?_
   refine gm ?_
   refine g_q (.free rfl) rfl rfl (qt_call rfl func76 rfl (by decide) rfl (fun w M => conFunc_any w _ (us) _ (fun i => (fs.getD i id) (k : Int) = -1 ∨ (fs.getD i id) (k : Int) ≠ (fs.getD i id) (l : Int)) (mem_rdV M hu) (fun w' hb i hi => callsV_f (bnd := []) (vs := [_]) (caps := [_, _]) func75 rfl (by decide) (canc1_any w' _ (fs.getD i id) c.s.length (fun w'' hb' => hf w'' ((M.1.trans (hb.mono M.1.size)).trans (hb'.mono (Nat.le_trans M.1.size hb.size))) i hi) _ _ (k : Int) (l : Int) (bxV_below hb (bxV_of (n := 1) M rfl)) (bxV_below hb (bxV_of (n := 2) M rfl)) (by omega) (by omega) (by omega) (by omega))))) ?_
   refine gv (qt_not rfl rfl) ?_
   refine gnt (hK24 _ _ ?_)
   refine gc_cond rfl (fun hc2 => ?_) (fun hc2 => ?_)
   ·try simp only [sA] at hc2
    refine gc_sr fun K25 hK25 => ?_
    refine gas ?_
    refine gnt (hK25 _ _ ?_)
    refine gc_ret ?_
    refine gk_block_ret ?_
    refine gk_then_ret ?_
    refine gk_then_ret ?_
    refine gk_block_ret ?_
    refine gk_block_ret ?_
    refine gk_then_ret ?_
    refine gk_then_ret ?_
    refine gk_block_ret ?_
    refine gk_then_ret ?_
    refine ret_1 rfl rfl  (fun w M => ?_)
    rw [bP_f (fun hc : cancP fs c.s.length => bP_f' hc2 (hl ▸ (ex_at (fs := fs) (P := fun φ => φ (k : Int) = -1 ∨ φ (k : Int) ≠ φ (l : Int))).2 (hc k l (by omega) (by omega))))]; exact ⟨rfl, M.1⟩
   try simp only [sA] at hc2
   refine gc_skip ?_
   refine gk_block ?_
   refine gk_then (hK18 _ _ ?_)
   refine gc_region ?_
   refine gv (qt_add rfl rfl rfl (by omega)) ?_
   refine gm ?_
   refine g_nil ?_
   refine gk_then (gk_take 2 ?_)
   refine gk_sub ?hs_26 (hKL15 (l + 1) ?hi_26 ?hm_26)
   case hs_26 => repeat first | exact sub_nil | refine sub_cons rfl ?_
   case hi_26 => exact ⟨by omega, cancTo_next hno1 ((ex_at (fs := fs) (P := fun φ => φ (k : Int) = -1 ∨ φ (k : Int) ≠ φ (l : Int))).1 (hl ▸ bP_t' hc2))⟩
   case hm_26 => omega
  try simp only [sA] at hc1
  refine gc_exit ?_
  refine gk_then_exit ?_
  refine gk_then_exit ?_
  refine gk_block_hit ?_
  refine gk_block ?_
  refine gk_then (hK9 _ _ ?_)
  refine gc_region ?_
  refine gv (qt_add rfl rfl rfl (by omega)) ?_
  refine gm ?_
  refine g_nil ?_
  obtain rfl : k = l := by omega
  refine gk_then (gk_take 1 ?_)
  refine gk_sub ?hs_27 (hKL6 (k + 1) ?hi_27 ?hm_27)
  case hs_27 => repeat first | exact sub_nil | refine sub_cons rfl ?_
  case hi_27 => exact ⟨by omega, cancTo_row hno1⟩
  case hm_27 => omega
 try simp only [sA] at hc0
 refine gc_exit ?_
 refine gk_then_exit ?_
 refine gk_then_exit ?_
 refine gk_block_hit ?_
 refine gk_then (hK4 _ _ ?_)
 refine gc_sr fun K28 hK28 => ?_
 refine gas ?_
 refine gnt (hK28 _ _ ?_)
 refine gc_ret ?_
 refine ret_1 rfl rfl  (fun w M => ?_)
 obtain rfl : k = c.s.length := by omega
 rw [bP_t (canc_end hno)]; exact ⟨rfl, M.1⟩
theorem isMono_any (w : World) (v : Value) (c : Cat) (f : Int) (h : RdC w v c) (hS : ShapeP c) (f0 : 0 ≤ f) (f1 : f < c.s.length) :
  Calls Try.prog 24 #[v, .int .i64 f] w (RetB w (bP (monoP c f))) := by
 have h0 := h
 obtain ⟨va, vb, vc, vd, ve, vf, vg, vh, rfl, h1, h2, h3, h4, _⟩ := h.lists
 have hn40 := hS.n40
 go_enter func24, Try.ntmps24
 refine gc_enter (N := 11) rfl (look_cons (k := 0) rfl (look_cons (k := 1) rfl (look_nil _))) ?_
 refine gc_sr fun K1 hK1 => ?_
 refine gop fun K3 hK3 => ?_
 refine go_box rfl rfl rfl rfl rfl ?_
 intro B2
 refine hK3 _ _ ?_
 refine gas ?_
 refine gnt (hK1 _ _ ?_)
 refine gc_seq fun K4 hK4 => ?_
 try simp only [sL]
 refine ga_start _ (fun w M => M) ?_
 refine gav 0 rfl (qts underlying27 (n := 0)) ?_
 refine gav 1 rfl (qts underlying27 (n := 0)) ?_
 refine gav 2 rfl (qt_move rfl rfl) ?_
 refine gao 3 fun K6 hK6 => ?_
 refine go_callFv rfl rfl rfl func50 rfl (by decide) rfl (fun w M => before_any w (_) _ _ _ (h0) (M.1) (by first | assumption | omega) (by first | assumption | omega) (by first | assumption | omega)) ?_
 intro fv5
 refine hK6 _ _ (fun w M => (mem_take 1 M :)) ?_
 refine gao 4 fun K8 hK8 => ?_
 refine go_sliceV1 rfl rfl rfl rfl ulSV (fun w M => (mem_fv0 (n := 1) M rfl).1.cells) ?_
 intro B7
 refine hK8 _ _ (fun w M => (mem_take 1 M :)) ?_
 refine gao 5 fun K9 hK9 => ?_
 refine go_q rfl rfl (qt_call rfl func53 rfl (by decide) rfl (fun w M => isCancelled_any w _ _ _ (_) ([bef c f]) (mem_rdC M h0) (by first | assumption | omega) (rdV_bx (mem_bx (n := 2) M rfl)) (rfl) (fun w' hb i hi => by
   have e : i = 0 := by simpa using hi
   subst e; exact mem_fv (n := 1) M rfl hb))) ?_
 refine hK9 _ _ (fun w M => (mem_take 1 M :)) ?_
 refine gav 6 rfl (qt_assign rfl rfl) ?_
 refine ga_done (by kernel_rfl) ?_
 refine gk_then (hK4 _ _ ?_)
 refine gc_ret ?_
 refine ret_1 rfl rfl  (fun w M => ?_)
 exact ⟨rfl, M.1⟩
theorem isEpi_any (w : World) (v : Value) (c : Cat) (f : Int) (h : RdC w v c) (hS : ShapeP c) (f0 : 0 ≤ f) (f1 : f < c.s.length) :
  Calls Try.prog 34 #[v, .int .i64 f] w (RetB w (bP (epiP c f))) := by
 have h0 := h
 obtain ⟨va, vb, vc, vd, ve, vf, vg, vh, rfl, h1, h2, h3, h4, _⟩ := h.lists
 have hn40 := hS.n40
 go_enter func34, Try.ntmps34
 refine gc_enter (N := 11) rfl (look_cons (k := 0) rfl (look_cons (k := 1) rfl (look_nil _))) ?_
 refine gc_sr fun K1 hK1 => ?_
 refine gop fun K3 hK3 => ?_
 refine go_box rfl rfl rfl rfl rfl ?_
 intro B2
 refine hK3 _ _ ?_
 refine gas ?_
 refine gnt (hK1 _ _ ?_)
 refine gc_seq fun K4 hK4 => ?_
 try simp only [sL]
 refine ga_start _ (fun w M => M) ?_
 refine gav 0 rfl (qts underlying27 (n := 0)) ?_
 refine gav 1 rfl (qts underlying27 (n := 0)) ?_
 refine gav 2 rfl (qt_move rfl rfl) ?_
 refine gao 3 fun K6 hK6 => ?_
 refine go_callFv rfl rfl rfl func59 rfl (by decide) rfl (fun w M => behind_any w (_) _ _ _ (h0) (M.1) (by first | assumption | omega) (by first | assumption | omega) (by first | assumption | omega)) ?_
 intro fv5
 refine hK6 _ _ (fun w M => (mem_take 1 M :)) ?_
 refine gao 4 fun K8 hK8 => ?_
 refine go_sliceV1 rfl rfl rfl rfl ulSV (fun w M => (mem_fv0 (n := 1) M rfl).1.cells) ?_
 intro B7
 refine hK8 _ _ (fun w M => (mem_take 1 M :)) ?_
 refine gao 5 fun K9 hK9 => ?_
 refine go_q rfl rfl (qt_call rfl func53 rfl (by decide) rfl (fun w M => isCancelled_any w _ _ _ (_) ([beh c f]) (mem_rdC M h0) (by first | assumption | omega) (rdV_bx (mem_bx (n := 2) M rfl)) (rfl) (fun w' hb i hi => by
   have e : i = 0 := by simpa using hi
   subst e; exact mem_fv (n := 1) M rfl hb))) ?_
 refine hK9 _ _ (fun w M => (mem_take 1 M :)) ?_
 refine gav 6 rfl (qt_assign rfl rfl) ?_
 refine ga_done (by kernel_rfl) ?_
 refine gk_then (hK4 _ _ ?_)
 refine gc_ret ?_
 refine ret_1 rfl rfl  (fun w M => ?_)
 exact ⟨rfl, M.1⟩
theorem solutions_any (w : World) (v : Value) (c : Cat) (u : Value) (φ : Int → Int) (x : Int) (h : RdC w v c) (hn40 : c.s.length ≤ 40) (hu : ∀ w', Below w.heap.size w w' → SpI c.s.length φ w' u) :
  Calls Try.prog 49 #[v, u, .int .i64 x] w (RetL w (solL φ x c.s.length)) := by
 have h0 := h
 obtain ⟨va, vb, vc, vd, ve, vf, vg, vh, rfl, h1, h2, h3, h4, _⟩ := h.lists
 go_enter func49, Try.ntmps49
 refine gc_enter (N := 25) rfl (look_cons (k := 0) rfl (look_cons (k := 1) rfl (look_cons (k := 2) rfl (look_nil _)))) ?_
 refine gc_sr fun K1 hK1 => ?_
 refine gop fun K3 hK3 => ?_
 refine go_box rfl rfl rfl rfl rfl ?_
 intro B2
 refine hK3 _ _ ?_
 refine gas ?_
 refine gnt (hK1 _ _ ?_)
 refine gc_sr fun K4 hK4 => ?_
 refine gas ?_
 refine gnt (hK4 _ _ ?_)
 refine gc_seq fun K5 hK5 => ?_
 refine gc_seq fun K6 hK6 => ?_
 refine gc_nilS ?_
 refine gc_region ?_
 refine gv (qts underlying27 (n := 0)) ?_
 refine g_q (.free rfl) rfl rfl (qt_call rfl func31 rfl (by decide) rfl (fun w M => arrows_any w _ _ (mem_rdC M h0))) ?_
 refine gm ?_
 refine gnt (hK6 _ _ ?_)
 refine gc_block ?_
 try simp only [sL]
 refine gc_loopT ([(0, _), (1, _), (2, _), (3, _), (6, _), (10, _)] : Env) (fun s : Nat × (Option Addr) × Nat => (fun (k : Nat) (a : Option Addr) (q : Nat) => (([(7, .slice a (solL φ x k).length q), (11, .int .i64 (k : Int))] : Env), ([(1, own1I (.slice a (solL φ x k).length q) (solL φ x k))] : List (Nat × Itm)), k ≤ c.s.length, c.s.length - k)) s.1 s.2.1 s.2.2) (0, _, _) (by repeat first | exact sub_nil | refine sub_cons rfl ?_) rfl (Nat.zero_le _) ?_
 rintro ⟨k, a, q⟩ hinv KL7 hKL7
 simp only [sU, sL] at hinv hKL7 ⊢
 have hk := hinv
 have hl := sol_len φ x k
 refine gc_sr fun K8 hK8 => ?_
 refine gv (qt_lss rfl rfl rfl) ?_
 refine gnt (hK8 _ _ ?_)
 refine gc_seq fun K9 hK9 => ?_
 refine gc_cond rfl (fun hc0 => ?_) (fun hc0 => ?_)
 ·try simp only [sA] at hc0
  refine gc_skip ?_
  refine gk_then (hK9 _ _ ?_)
  refine gc_seq fun K10 hK10 => ?_
  refine gc_block ?_
  refine gc_sr fun K11 hK11 => ?_
  refine gm ?_
  refine gas ?_
  refine gnt (hK11 _ _ ?_)
  refine gc_sr fun K12 hK12 => ?_
  refine gm ?_
  refine gm ?_
  refine g_q (.free rfl) rfl rfl (qt_callV rfl rfl rfl (fun w M => (hu w M.1).2 (k : Int) (by omega) (by omega))) ?_
  refine gm ?_
  refine gv (qt_eql rfl rfl rfl) ?_
  refine gnt (hK12 _ _ ?_)
  refine gc_cond rfl (fun hc1 => ?_) (fun hc1 => ?_)
  ·try simp only [sA] at hc1
   refine gc_region ?_
   refine gm ?_
   refine gm ?_
   refine gop fun K14 hK14 => ?_
   refine go_slice1 rfl rfl rfl rfl underlying24 ?_
   intro B13
   refine hK14 _ _ ?_
   refine gop fun K16 hK16 => ?_
   refine go_append (n := 1) (m := 2) rfl rfl rfl underlying24 rfl rfl rfl rfl (by omega) ?_
   intro va15 vc15
   refine hK16 _ _ ?_
   refine gas ?_
   refine g_nil ?_
   refine gk_block ?_
   refine gk_then (hK10 _ _ ?_)
   refine gc_region ?_
   refine gv (qt_add rfl rfl rfl (by omega)) ?_
   refine gm ?_
   refine g_nil ?_
   rw [sol_t hc1]
   refine gk_then (gk_take 2 ?_)
   refine gk_sub ?hs_17 (hKL7 (k + 1, _, _) ?hi_17 ?hm_17)
   case hs_17 => repeat first | exact sub_nil | refine sub_cons rfl ?_
   case hi_17 => omega
   case hm_17 => omega
  try simp only [sA] at hc1
  refine gc_skip ?_
  refine gk_block ?_
  refine gk_then (hK10 _ _ ?_)
  refine gc_region ?_
  refine gv (qt_add rfl rfl rfl (by omega)) ?_
  refine gm ?_
  refine g_nil ?_
  rw [sol_f hc1]
  refine gk_then (gk_take 2 ?_)
  refine gk_sub ?hs_18 (hKL7 (k + 1, _, _) ?hi_18 ?hm_18)
  case hs_18 => repeat first | exact sub_nil | refine sub_cons rfl ?_
  case hi_18 => omega
  case hm_18 => omega
 try simp only [sA] at hc0
 refine gc_exit ?_
 refine gk_then_exit ?_
 refine gk_then_exit ?_
 refine gk_block_hit ?_
 refine gk_then (hK5 _ _ ?_)
 refine gc_sr fun K19 hK19 => ?_
 refine gm ?_
 refine gas ?_
 refine gnt (hK19 _ _ ?_)
 refine gc_ret ?_
 refine ret_1 rfl rfl  (fun w M => ?_)
 obtain rfl : k = c.s.length := by omega
 exact ⟨_, rfl, mem_own1 (n := 1) M rfl, M.1⟩
end Go.Proofs.Ytbiplocgenppoaa
namespace Go.Proofs.Ytbiplocgenppoaa
open _root_.Go.Proofs.Try
open Go.RowKit
theorem retractions_any (w : World) (v : Value) (c : Cat) (f : Int) (h : RdC w v c) (hS : ShapeP c) (f0 : 0 ≤ f) (f1 : f < c.s.length) :
  Calls Try.prog 36 #[v, .int .i64 f] w (RetL w (retL c f)) := by
 have h0 := h
 obtain ⟨va, vb, vc, vd, ve, vf, vg, vh, rfl, h1, h2, h3, h4, _⟩ := h.lists
 have hn40 := hS.n40
 have hA := arrP hS f0 f1
 have a1 := hA.fs; have a2 := hA.ft; have a3 := hA.fm; have a4 := hA.row
 go_enter func36, Try.ntmps36
 refine gc_enter (N := 14) rfl (look_cons (k := 0) rfl (look_cons (k := 1) rfl (look_nil _))) ?_
 refine gc_sr fun K1 hK1 => ?_
 refine gop fun K3 hK3 => ?_
 refine go_box rfl rfl rfl rfl rfl ?_
 intro B2
 refine hK3 _ _ ?_
 refine gas ?_
 refine gnt (hK1 _ _ ?_)
 refine gc_seq fun K4 hK4 => ?_
 try simp only [sL]
 refine ga_start _ (fun w M => M) ?_
 refine gav 0 rfl (qts underlying27 (n := 0)) ?_
 refine gav 1 rfl (qts underlying27 (n := 0)) ?_
 refine gav 2 rfl (qt_move rfl rfl) ?_
 refine gav 4 rfl (qts underlying27 (n := 0)) ?_
 refine gav 5 rfl (qt_move rfl rfl) ?_
 refine gao 3 fun K6 hK6 => ?_
 refine go_callFv rfl rfl rfl func59 rfl (by decide) rfl (fun w M => behind_any w (_) _ _ _ (h0) (M.1) (by first | assumption | omega) (by first | assumption | omega) (by first | assumption | omega)) ?_
 intro fv5
 refine hK6 _ _ (fun w M => (mem_take 1 M :)) ?_
 refine gao 6 fun K7 hK7 => ?_
 refine go_q rfl rfl (qt_call rfl func60 rfl (by decide) rfl (fun w M => units_any w _ _ _ (mem_rdC M h0) (hA))) ?_
 refine hK7 _ _ (fun w M => (mem_take 1 M :)) ?_
 refine gav 7 rfl (qt_fieldPair rfl rfl) ?_
 refine gao 8 fun K9 hK9 => ?_
 refine go_callL rfl rfl rfl func49 rfl (by decide) rfl (fun w M => solutions_any w _ _ (_) (beh c f) (_) (mem_rdC M h0) (by first | assumption | omega) (fun w' hb => mem_fv (n := 1) M rfl hb)) ?_
 intro va8 vc8
 refine hK9 _ _ (fun w M => (mem_take 1 M :)) ?_
 refine gav 9 rfl (qt_assign rfl rfl) ?_
 refine ga_done (by kernel_rfl) ?_
 refine gk_then (hK4 _ _ ?_)
 refine gc_ret ?_
 refine ret_1 rfl rfl  (fun w M => ?_)
 exact ⟨_, rfl, mem_own1 (n := 2) M rfl, M.1⟩
def ArrB (c : Cat) (f : Int) (g : Value) (b : Bool) : Prop := ∀ (w : World) (v : Value), RdC w v c → IsCat c → 0 ≤ f → f < c.s.length → CallsV g [v, .int .i64 f] w (RetB w b)
def ArrL (c : Cat) (f : Int) (g : Value) (xs : List Int) : Prop := ∀ (w : World) (v : Value), RdC w v c → IsCat c → 0 ≤ f → f < c.s.length → CallsV g [v, .int .i64 f] w (RetL w xs)
theorem askB_any (w : World) (v : Value) (c : Cat) (f : Int) (h : RdC w v c) (g : Value) (b : Bool) (hg : ArrB c f g b) :
  Calls Try.prog 23 #[v, .int .i64 f, g] w (RetBI w (bif decide (arrErr c [f] = 0) then b else false) (arrErr c [f])) := by
 have h0 := h
 obtain ⟨va, vb, vc, vd, ve, vf, vg, vh, rfl, h1, h2, h3, h4, _⟩ := h.lists
 go_enter func23, Try.ntmps23
 refine gc_enter (N := 26) rfl (look_cons (k := 0) rfl (look_cons (k := 1) rfl (look_cons (k := 2) rfl (look_nil _)))) ?_
 refine gc_sr fun K1 hK1 => ?_
 refine gop fun K3 hK3 => ?_
 refine go_box rfl rfl rfl rfl rfl ?_
 intro B2
 refine hK3 _ _ ?_
 refine gas ?_
 refine gas ?_
 refine gnt (hK1 _ _ ?_)
 refine gc_sr fun K4 hK4 => ?_
 refine gv (qts underlying27 (n := 0)) ?_
 refine gm ?_
 refine gop fun K6 hK6 => ?_
 refine go_slice1 rfl rfl rfl rfl underlying24 ?_
 intro B5
 refine hK6 _ _ ?_
 refine gop fun K8 hK8 => ?_
 refine go_callCI rfl rfl rfl func48 rfl (by decide) rfl (fun w M => readArrows_any w _ _ _ _ (mem_rdC M h0) ((mem_own1 (n := 1) M rfl).rd)) ?_
 intro ca7 cb7 cc7 cd7 ce7 cf7 cg7 ch7 cu7
 refine hK8 _ _ ?_
 refine gm ?_
 refine gv (qt_extract rfl rfl rfl) ?_
 refine gv (qt_extract rfl rfl rfl) ?_
 refine gop fun K10 hK10 => ?_
 refine go_alloc (z := (.agg #[.int .i64 0, .slice none 0 0, .slice none 0 0, .slice none 0 0, .slice none 0 0])) (cs := [.int .i64 0, .slice none 0 0, .slice none 0 0, .slice none 0 0, .slice none 0 0]) rfl rfl rfl (fun w => by kernel_rfl) rfl ?_
 intro B9
 refine hK10 _ _ ?_
 refine gop fun K11 hK11 => ?_
 refine go_storeS (n := 6) rfl rfl rfl rfl (by kernel_rfl) rfl rfl rfl ?_
 refine hK11 _ _ ?_
 refine gas ?_
 refine gnt (hK4 _ _ ?_)
 refine gc_seq fun K12 hK12 => ?_
 refine gc_sr fun K13 hK13 => ?_
 refine gm ?_
 refine gv (qt_neq rfl rfl rfl) ?_
 refine gnt (hK13 _ _ ?_)
 refine gc_cond rfl (fun hc0 => ?_) (fun hc0 => ?_)
 ·try simp only [sA] at hc0
  refine gc_sr fun K14 hK14 => ?_
  refine gas ?_
  refine gnt (hK14 _ _ ?_)
  refine gc_sr fun K15 hK15 => ?_
  refine gm ?_
  refine gm ?_
  refine gas ?_
  refine gas ?_
  refine gnt (hK15 _ _ ?_)
  refine gc_ret ?_
  refine gk_then_ret ?_
  refine ret_2 rfl rfl rfl  (fun w M => ?_)
  rw [decide_eq_false hc0]; exact ⟨rfl, M.1⟩
 try simp only [sA] at hc0
 refine gc_skip ?_
 refine gk_then (hK12 _ _ ?_)
 refine gc_seq fun K16 hK16 => ?_
 have hE := arrErr_0 hc0
 have hC := hE.1
 have hS := hC.toShapeP
 have hf := allP_one.1 hE.2
 have f0 := hf.1; have f1 := hf.2
 simp only [arrCat_t hc0]
 refine gc_region ?_
 refine gm ?_
 refine gv (qts underlying27 (n := 6)) ?_
 refine gm ?_
 refine g_q (.free rfl) rfl rfl (qt_callV rfl rfl rfl (fun w M => hg w _ (rdC_mk ((mem_own1 (n := 2) M rfl).rd) ((mem_own1 (n := 3) M rfl).rd) ((mem_own1 (n := 4) M rfl).rd) (mem_rdU (n := 5) M rfl)) hC f0 f1)) ?_
 refine gas ?_
 refine gas ?_
 refine gnt (hK16 _ _ ?_)
 refine gc_ret ?_
 refine ret_2 rfl rfl rfl  (fun w M => ?_)
 rw [decide_eq_true hc0, hc0]; exact ⟨rfl, M.1⟩
theorem askL_any (w : World) (v : Value) (c : Cat) (f : Int) (h : RdC w v c) (g : Value) (xs : List Int) (hg : ArrL c f g xs) :
  Calls Try.prog 35 #[v, .int .i64 f, g] w (RetLI w (bif decide (arrErr c [f] = 0) then xs else []) (arrErr c [f])) := by
 have h0 := h
 obtain ⟨va, vb, vc, vd, ve, vf, vg, vh, rfl, h1, h2, h3, h4, _⟩ := h.lists
 go_enter func35, Try.ntmps35
 refine gc_enter (N := 26) rfl (look_cons (k := 0) rfl (look_cons (k := 1) rfl (look_cons (k := 2) rfl (look_nil _)))) ?_
 refine gc_sr fun K1 hK1 => ?_
 refine gop fun K3 hK3 => ?_
 refine go_box rfl rfl rfl rfl rfl ?_
 intro B2
 refine hK3 _ _ ?_
 refine gas ?_
 refine gas ?_
 refine gnt (hK1 _ _ ?_)
 refine gc_sr fun K4 hK4 => ?_
 refine gv (qts underlying27 (n := 0)) ?_
 refine gm ?_
 refine gop fun K6 hK6 => ?_
 refine go_slice1 rfl rfl rfl rfl underlying24 ?_
 intro B5
 refine hK6 _ _ ?_
 refine gop fun K8 hK8 => ?_
 refine go_callCI rfl rfl rfl func48 rfl (by decide) rfl (fun w M => readArrows_any w _ _ _ _ (mem_rdC M h0) ((mem_own1 (n := 1) M rfl).rd)) ?_
 intro ca7 cb7 cc7 cd7 ce7 cf7 cg7 ch7 cu7
 refine hK8 _ _ ?_
 refine gm ?_
 refine gv (qt_extract rfl rfl rfl) ?_
 refine gv (qt_extract rfl rfl rfl) ?_
 refine gop fun K10 hK10 => ?_
 refine go_alloc (z := (.agg #[.int .i64 0, .slice none 0 0, .slice none 0 0, .slice none 0 0, .slice none 0 0])) (cs := [.int .i64 0, .slice none 0 0, .slice none 0 0, .slice none 0 0, .slice none 0 0]) rfl rfl rfl (fun w => by kernel_rfl) rfl ?_
 intro B9
 refine hK10 _ _ ?_
 refine gop fun K11 hK11 => ?_
 refine go_storeS (n := 6) rfl rfl rfl rfl (by kernel_rfl) rfl rfl rfl ?_
 refine hK11 _ _ ?_
 refine gas ?_
 refine gnt (hK4 _ _ ?_)
 refine gc_seq fun K12 hK12 => ?_
 refine gc_sr fun K13 hK13 => ?_
 refine gm ?_
 refine gv (qt_neq rfl rfl rfl) ?_
 refine gnt (hK13 _ _ ?_)
 refine gc_cond rfl (fun hc0 => ?_) (fun hc0 => ?_)
 ·try simp only [sA] at hc0
  refine gc_sr fun K14 hK14 => ?_
  refine gas ?_
  refine gnt (hK14 _ _ ?_)
  refine gc_sr fun K15 hK15 => ?_
  refine gm ?_
  refine gm ?_
  refine gas ?_
  refine gas ?_
  refine gnt (hK15 _ _ ?_)
  refine gc_ret ?_
  refine gk_then_ret ?_
  refine ret_2 rfl rfl rfl  (fun w M => ?_)
  rw [decide_eq_false hc0]; exact ⟨_, rfl, Sl.nil _ _, M.1⟩
 try simp only [sA] at hc0
 refine gc_skip ?_
 refine gk_then (hK12 _ _ ?_)
 refine gc_seq fun K16 hK16 => ?_
 have hE := arrErr_0 hc0
 have hC := hE.1
 have hS := hC.toShapeP
 have hf := allP_one.1 hE.2
 have f0 := hf.1; have f1 := hf.2
 simp only [arrCat_t hc0]
 refine gc_region ?_
 refine gm ?_
 refine gv (qts underlying27 (n := 6)) ?_
 refine gm ?_
 refine gop fun K18 hK18 => ?_
 refine go_callVL rfl rfl rfl rfl rfl (fun w M => hg w _ (rdC_mk ((mem_own1 (n := 2) M rfl).rd) ((mem_own1 (n := 3) M rfl).rd) ((mem_own1 (n := 4) M rfl).rd) (mem_rdU (n := 5) M rfl)) hC f0 f1) ?_
 intro va17 vc17
 refine hK18 _ _ ?_
 refine gas ?_
 refine gas ?_
 refine gnt (hK16 _ _ ?_)
 refine gc_ret ?_
 refine ret_2 rfl rfl rfl  (fun w M => ?_)
 rw [decide_eq_true hc0, hc0]
 exact ⟨_, rfl, mem_own1 (n := 7) M rfl, M.1⟩
theorem IsMono_v (c : Cat) (f : Int) : (bif decide (arrErr c [f] = 0) then bP (monoP c f) else false) = (fIsMono c f).1 ∧ arrErr c [f] = (fIsMono c f).2 := by
 by_cases h : arrErr c [f] = 0
 ·rw [IsMono_t h, decide_eq_true h]; exact ⟨rfl, h⟩
 rw [IsMono_e h, decide_eq_false h]; exact ⟨rfl, rfl⟩
theorem impl_IsMono (w : World) (v : Value) (c : Cat) (f : Int) (h : RdC w v c) :
  Calls Try.prog 7 #[v, .int .i64 f] w (RetBI w (fIsMono c f).1 (fIsMono c f).2) := by
 have h0 := h
 obtain ⟨va, vb, vc, vd, ve, vf, vg, vh, rfl, h1, h2, h3, h4, _⟩ := h.lists
 go_enter func7, Try.ntmps7
 refine gc_enter (N := 11) rfl (look_cons (k := 0) rfl (look_cons (k := 1) rfl (look_nil _))) ?_
 refine gc_sr fun K1 hK1 => ?_
 refine gop fun K3 hK3 => ?_
 refine go_box rfl rfl rfl rfl rfl ?_
 intro B2
 refine hK3 _ _ ?_
 refine gas ?_
 refine gas ?_
 refine gnt (hK1 _ _ ?_)
 refine gc_sr fun K4 hK4 => ?_
 refine gv (qts underlying27 (n := 0)) ?_
 refine gm ?_
 refine g_q (.free rfl) rfl rfl (qt_call rfl func23 rfl (by decide) rfl (fun w M => askB_any w _ _ _ (mem_rdC M h0) (_) (bP (monoP c f)) (fun w v h hC f0 f1 => callsV_f (bnd := []) (vs := [_, _]) (caps := []) func24 rfl (by decide) (isMono_any w v c f h hC.toShapeP f0 f1)))) ?_
 refine gv (qt_extract rfl rfl rfl) ?_
 refine gv (qt_extract rfl rfl rfl) ?_
 refine gas ?_
 refine gas ?_
 refine gnt (hK4 _ _ ?_)
 refine gc_ret ?_
 refine ret_2 rfl rfl rfl  (fun w M => ?_)
 rw [← (IsMono_v c f).1, ← (IsMono_v c f).2]; exact ⟨rfl, M.1⟩
theorem IsEpi_v (c : Cat) (f : Int) : (bif decide (arrErr c [f] = 0) then bP (epiP c f) else false) = (fIsEpi c f).1 ∧ arrErr c [f] = (fIsEpi c f).2 := by
 by_cases h : arrErr c [f] = 0
 ·rw [IsEpi_t h, decide_eq_true h]; exact ⟨rfl, h⟩
 rw [IsEpi_e h, decide_eq_false h]; exact ⟨rfl, rfl⟩
theorem impl_IsEpi (w : World) (v : Value) (c : Cat) (f : Int) (h : RdC w v c) :
  Calls Try.prog 10 #[v, .int .i64 f] w (RetBI w (fIsEpi c f).1 (fIsEpi c f).2) := by
 have h0 := h
 obtain ⟨va, vb, vc, vd, ve, vf, vg, vh, rfl, h1, h2, h3, h4, _⟩ := h.lists
 go_enter func10, Try.ntmps10
 refine gc_enter (N := 11) rfl (look_cons (k := 0) rfl (look_cons (k := 1) rfl (look_nil _))) ?_
 refine gc_sr fun K1 hK1 => ?_
 refine gop fun K3 hK3 => ?_
 refine go_box rfl rfl rfl rfl rfl ?_
 intro B2
 refine hK3 _ _ ?_
 refine gas ?_
 refine gas ?_
 refine gnt (hK1 _ _ ?_)
 refine gc_sr fun K4 hK4 => ?_
 refine gv (qts underlying27 (n := 0)) ?_
 refine gm ?_
 refine g_q (.free rfl) rfl rfl (qt_call rfl func23 rfl (by decide) rfl (fun w M => askB_any w _ _ _ (mem_rdC M h0) (_) (bP (epiP c f)) (fun w v h hC f0 f1 => callsV_f (bnd := []) (vs := [_, _]) (caps := []) func34 rfl (by decide) (isEpi_any w v c f h hC.toShapeP f0 f1)))) ?_
 refine gv (qt_extract rfl rfl rfl) ?_
 refine gv (qt_extract rfl rfl rfl) ?_
 refine gas ?_
 refine gas ?_
 refine gnt (hK4 _ _ ?_)
 refine gc_ret ?_
 refine ret_2 rfl rfl rfl  (fun w M => ?_)
 rw [← (IsEpi_v c f).1, ← (IsEpi_v c f).2]; exact ⟨rfl, M.1⟩
theorem RetractionsOf_v (c : Cat) (f : Int) : (bif decide (arrErr c [f] = 0) then retL c f else []) = (fRetractionsOf c f).1 ∧ arrErr c [f] = (fRetractionsOf c f).2 := by
 by_cases h : arrErr c [f] = 0
 ·rw [RetractionsOf_t h, decide_eq_true h]; exact ⟨rfl, h⟩
 rw [RetractionsOf_e h, decide_eq_false h]; exact ⟨rfl, rfl⟩
theorem impl_RetractionsOf (w : World) (v : Value) (c : Cat) (f : Int) (h : RdC w v c) :
  Calls Try.prog 11 #[v, .int .i64 f] w (RetLI w (fRetractionsOf c f).1 (fRetractionsOf c f).2) := by
 have h0 := h
 obtain ⟨va, vb, vc, vd, ve, vf, vg, vh, rfl, h1, h2, h3, h4, _⟩ := h.lists
 go_enter func11, Try.ntmps11
 refine gc_enter (N := 11) rfl (look_cons (k := 0) rfl (look_cons (k := 1) rfl (look_nil _))) ?_
 refine gc_sr fun K1 hK1 => ?_
 refine gop fun K3 hK3 => ?_
 refine go_box rfl rfl rfl rfl rfl ?_
 intro B2
 refine hK3 _ _ ?_
 refine gas ?_
 refine gas ?_
 refine gnt (hK1 _ _ ?_)
 refine gc_sr fun K4 hK4 => ?_
 refine gv (qts underlying27 (n := 0)) ?_
 refine gm ?_
 refine gop fun K6 hK6 => ?_
 refine go_callLI rfl rfl rfl func35 rfl (by decide) rfl (fun w M => askL_any w _ _ _ (mem_rdC M h0) (_) (retL c f) (fun w v h hC f0 f1 => callsV_f (bnd := []) (vs := [_, _]) (caps := []) func36 rfl (by decide) (retractions_any w v c f h hC.toShapeP f0 f1))) ?_
 intro va5 vc5
 refine hK6 _ _ ?_
 refine gv (qt_extract rfl rfl rfl) ?_
 refine gv (qt_extract rfl rfl rfl) ?_
 refine gas ?_
 refine gas ?_
 refine gnt (hK4 _ _ ?_)
 refine gc_ret ?_
 refine ret_2 rfl rfl rfl  (fun w M => ?_)
 rw [← (RetractionsOf_v c f).1, ← (RetractionsOf_v c f).2]
 exact ⟨_, rfl, mem_own1 (n := 1) M rfl, M.1⟩
end Go.Proofs.Ytbiplocgenppoaa
